"""Promise [27]: chains, clean bases, merged chains, least chains."""

import random

from cancelsback.chains import chain_text, clean_bases, least_chain, merged_chain
from cancelsback.errors import InvalidChain, InvalidIndex, Refused
from cancelsback.merges import merge_texts
from cancelsback.texts import text_word, word_text
from cancelsback.words import join_words, undo_word
from tests.support import Case, STRANGE

CHAIN = ((1, 2, 1), (1, 2, 2, 1), (1, 2, 1), (1, 1, 1, 1), (1, 2, 1), (1, 2, 2, 1), (1, 2, 1))


def random_chain(generator, most=4, length=2, letters=2):
    """A chain, often one whose neighbours have much in common."""
    text = tuple(generator.randrange(letters) for _ in range(generator.randint(0, length)))
    chain = [text]
    for _ in range(2 * generator.randint(0, most)):
        if generator.random() < 0.6:
            cut = generator.randint(0, len(text))
            put = tuple(generator.randrange(letters) for _ in range(generator.randint(0, length)))
            text = text[:cut] + put if generator.random() < 0.5 else put + text[cut:]
        else:
            text = tuple(generator.randrange(letters) for _ in range(generator.randint(0, length)))
        chain.append(text[:length + 1])
        text = chain[-1]
    return tuple(chain)


def word_of_chain(chain):
    word = ()
    for at, text in enumerate(chain):
        word = join_words(word, undo_word(text_word(text)) if at % 2 else text_word(text))
    return word


def all_merged(chain):
    """All chains that come of it by merges, one after another."""
    found = {chain}
    waiting = [chain]
    while waiting:
        here = waiting.pop()
        for place in range(1, len(here), 2):
            came = merge_texts(here[place], here[place - 1], here[place + 1])
            if came is not None:
                shorter = here[:place - 1] + (came,) + here[place + 2:]
                if shorter not in found:
                    found.add(shorter)
                    waiting.append(shorter)
    return found


def all_parted(chain):
    """All chains got by parting it into blocks that have a text."""
    if not chain:
        return set()
    found = set()
    for end in range(1, len(chain) + 1, 2):
        text = word_text(word_of_chain(chain[:end]))
        if text is not None:
            if end == len(chain):
                found.add((text,))
            found |= {(text, chain[end]) + rest for rest in all_parted(chain[end + 1:])}
    return found


class ChainsTest(Case):

    def test_small_ones(self):
        generator = random.Random(271)
        whole = 0
        for _ in range(600):
            chain = random_chain(generator)
            text = word_text(word_of_chain(chain))
            self.assertEqual(chain_text(chain), text)
            clean = [place for place in range(1, len(chain), 2)
                     if merge_texts(chain[place], chain[place - 1], chain[place + 1]) is not None]
            self.assertEqual(clean_bases(chain), tuple(clean))
            merged = all_merged(chain)
            self.assertEqual(merged, all_parted(chain))
            least = least_chain(chain)
            self.assertIn(least, merged)
            self.assertEqual(len(least), min(len(other) for other in merged))
            self.assertEqual(len(least) == 1, text is not None)
            if text is not None:
                self.assertEqual(least, (text,))
                self.assertTrue(all(clean_bases(other) for other in merged if len(other) > 1))
                whole += len(chain) > 3
            for place in range(len(chain)):
                if place in clean:
                    came = merge_texts(chain[place], chain[place - 1], chain[place + 1])
                    self.assertEqual(merged_chain(chain, place), chain[:place - 1] + (came,) + chain[place + 2:])
                elif place % 2:
                    self.refuses(Refused, -1, merged_chain, chain, place)
                else:
                    self.refuses(InvalidIndex, -1, merged_chain, chain, place)
        self.assertGreater(whole, 80)

    def test_some(self):
        self.assertEqual(chain_text(CHAIN), ())
        self.assertEqual(clean_bases(CHAIN), (1, 5))
        self.assertEqual(merged_chain(CHAIN, 1), ((1, 1),) + CHAIN[3:])
        self.assertEqual(least_chain(CHAIN), ((),))
        self.assertEqual(chain_text([[1, 2]]), (1, 2))
        self.assertEqual(clean_bases([()]), ())
        self.assertEqual(least_chain([(3,)]), ((3,),))
        self.assertIsNone(chain_text([(1,), (2,), (3,)]))
        self.assertEqual(least_chain([(1,), (2,), (3,)]), ((1,), (2,), (3,)))

    def test_greatest(self):
        generator = random.Random(272)
        for _ in range(40):
            chain = tuple(tuple(generator.randrange(2) for _ in range(12)) for _ in range(15))
            self.assertEqual(chain_text(chain), word_text(word_of_chain(chain)))
            chain = random_chain(generator, 7, 11)
            least = least_chain(chain)
            self.assertEqual(word_of_chain(least), word_of_chain(chain))
            self.assertEqual(least_chain(least), least)
        long = tuple((0,) * (12 - at % 2) for at in range(15))
        self.assertEqual(least_chain(long), ((0,) * 19,))

    def test_wrong_chains(self):
        for function, more in ((chain_text, 0), (clean_bases, 0), (merged_chain, 1), (least_chain, 0)):
            for chain in (None, (), [(), ()], [()] * 17, [None] * 16, 3, "a", {(): 1}):
                self.refuses(InvalidChain, -1, function, chain, *[None] * more)
            for wrong in STRANGE:
                if wrong != "":
                    self.refuses(InvalidChain, 1, function, [(1,), wrong, None], *[None] * more)
                    self.refuses(InvalidChain, 14, function, [()] * 14 + [wrong], *[None] * more)

    def test_wrong_places(self):
        for place in (None, True, -1, "1", 0, 2, 7, 8, 6, (1,)):
            self.refuses(InvalidIndex, -1, merged_chain, CHAIN, place)
        self.refuses(Refused, -1, merged_chain, CHAIN, 3)
        self.refuses(InvalidIndex, -1, merged_chain, [()], 1)
