"""Promise [33]: how far apart a text can come, with papers."""

import random
from itertools import product

from cancelsback.chains import chain_text
from cancelsback.distances import chain_reach, front_links, merge_reach
from cancelsback.errors import InvalidText, InvalidTexts
from cancelsback.merges import history_texts
from cancelsback.reaches import reach_holds, reach_paper, text_reach
from tests.support import Case, STRANGE, as_lists, come_at, leads_at, linked_classes, random_lot, texts_to
from tests.test_distances import due_pairs

TOLD = ((1, 2, 3), (4, 2, 3), (1, 2, 5))
ABOVE_ALL = 1000


def as_number(reach):
    return ABOVE_ALL if reach is None else reach


def chain_of(history):
    """The chain of told versions that a history is at its last step."""
    chains = []
    for step in history:
        if step[0] == "told":
            chains.append((step[1],))
        else:
            base, mine, yours = (chains[number] for number in step[1:])
            chains.append(mine + base[::-1] + yours)
    return chains[-1]


def history_goes(texts, text, reach, history):
    """Whether a history tells told versions only, its merges go at the reach, and ends with the text."""
    if any(step[0] == "told" and step[1] not in texts for step in history):
        return False
    came = history_texts(history)
    reaches = [as_number(merge_reach(*(came[number] for number in step[1:]))) for step in history if step[0] == "merge"]
    return min(reaches + [ABOVE_ALL]) >= as_number(reach) and came[-1] == text


def are_fair(texts, links):
    numbers = {link[2] for link in links} | set(range(max(len(text) for text in texts) + 2))
    return not any(due_pairs(texts, linked_classes(texts, links, number), number) for number in numbers)


def told_changed(history, step):
    """The history with another first step."""
    return (step,) + history[1:]


def filled(text, fillers):
    return tuple(letter for line in text for letter in (9,) * fillers + (line,)) + (9,) * fillers


class ReachesTest(Case):

    def test_small_ones(self):
        generator = random.Random(33)
        seen = {}
        for _ in range(70):
            texts = random_lot(generator, 3, 3, 2)
            found = [come_at(texts, distance, 7, 25) for distance in range(5)]
            for text in texts_to(4, 2):
                reach = text_reach(texts, text)
                seen[reach] = seen.get(reach, 0) + 1
                self.assertEqual(reach is None, text in texts)
                for distance, came in enumerate(found):
                    if came is not None:
                        self.assertEqual(text in came, as_number(reach) >= distance)
                paper = reach_paper(texts, text)
                self.assertIs(reach_holds(texts, text, paper), True)
                self.assertEqual(paper[0], reach)
                if reach == -1:
                    self.assertEqual(paper[1], ())
                else:
                    self.assertTrue(history_goes(texts, text, reach, paper[1]))
                if reach is None:
                    self.assertEqual(paper[2], ())
                else:
                    self.assertTrue(are_fair(texts, paper[2]))
                    self.assertFalse(leads_at(texts, paper[2], reach + 1, text))
        self.assertGreaterEqual(set(seen), {None, -1, 0, 1, 2})

    def test_chains_reach_no_farther(self):
        generator = random.Random(331)
        equal = 0
        for _ in range(40):
            texts = random_lot(generator, 3, 4, 2)
            for many in (1, 3, 5):
                for places in product(range(len(texts)), repeat=many):
                    chain = tuple(texts[at] for at in places)
                    reach = chain_reach(chain)
                    if reach != -1:
                        self.assertLessEqual(as_number(reach), as_number(text_reach(texts, chain_text(chain))))
            for text in texts_to(5, 2):
                reach, history, _ = reach_paper(texts, text)
                if reach != -1:
                    chain = chain_of(history)
                    if len(chain) <= 15:
                        equal += 1
                        self.assertEqual(chain_reach(chain), reach)
        self.assertGreater(equal, 100)

    def test_fillers(self):
        generator = random.Random(332)
        seen = set()
        lots = [random_lot(generator, 3, 4, 2) for _ in range(40)] + [[(0, 1, 1, 0), (1, 1, 1, 0), (0, 1, 1, 1)]]
        for texts in lots:
            for text in texts_to(4, 2):
                reach = text_reach(texts, text)
                for fillers in (1, 2):
                    expected = None if reach is None else (reach + 1) * (fillers + 1) - 1
                    told = [filled(version, fillers) for version in texts]
                    self.assertEqual(text_reach(told, filled(text, fillers)), expected)
                seen.add(reach)
        self.assertGreaterEqual(seen, {None, -1, 0, 1, 2})

    def test_edges(self):
        self.assertIsNone(text_reach([[1, 2, 3]], [1, 2, 3]))
        self.assertEqual(text_reach([(1, 2, 3)], (1, 2)), -1)
        self.assertEqual(text_reach(TOLD, (4, 2, 5)), 1)
        self.assertEqual(text_reach([(0,) * 5, (0,) * 6], (0,) * 12), 5)
        self.assertEqual(text_reach([(0,) * 5, (0,) * 6], (0,) * 4), 4)
        self.assertEqual(text_reach([(0,) * 5, (0,) * 6], ()), 0)
        self.assertEqual(text_reach([()], ()), None)
        self.assertEqual(text_reach([()], (1,)), -1)
        self.assertEqual(reach_paper([()], ()), (None, (("told", ()),), ()))
        self.assertEqual(reach_paper([(1,)], ()), (-1, (), ()))

    def test_papers_changed_at_one_place(self):
        text = (4, 2, 5)
        right = reach_paper(TOLD, text)
        reach, history, links = right
        self.assertEqual(reach, 1)
        self.assertIs(reach_holds(TOLD, text, right), True)
        # Links may be told in any order, twice, between one and the same, and be more than are needed.
        for other in (links[::-1], links + links, links + (((), (), 7),), front_links(TOLD)):
            self.assertIs(reach_holds(TOLD, text, (reach, history, other)), True)
        self.assertIs(reach_holds(TOLD, text, (reach, history, links + (((4,), (1,), 0),))), True)
        self.assertIs(reach_holds(TOLD, text, (reach, history, links + (((4,), (1,), 2),))), False)
        for at, link in enumerate(links):
            self.assertIs(reach_holds(TOLD, text, (reach, history, links[:at] + links[at + 1:])), False)
        for wrong in (list(right), as_lists(right), right[:2], right + ((),), (0, history, links), (2, history, links),
                      (None, history, links), (None, history, ()), (-1, history, links), (-1, (), links), (True, history, links),
                      ("1", history, links), (1, (), links), (1, history, ()), (1, list(history), links),
                      (1, history[:-1], links), (1, history[1:], links), (1, history, list(links)),
                      (1, history, links + ((),)), (1, history, links + (((), (), -1),)), (1, history, links + (((), (), True),)),
                      (1, history, links + (((), [], 1),)), (1, history, links + (((7,), (), 0),)),
                      (1, history, (list(links[0]),) + links[1:]), (1, history + (("told", text),), links),
                      (1, (("told", (4, 2, 5)),), links), (1, None, links), (1, history, None),
                      (1, history[:-1] + (list(history[-1]),), links), (10 ** 20, history, links),
                      (1, told_changed(history, ["told", history[0][1]]), links),
                      (1, told_changed(history, history[0] + (0,)), links),
                      (1, told_changed(history, ("tell", history[0][1])), links),
                      (1, told_changed(history, ("told", list(history[0][1]))), links),
                      (1, told_changed(history, ("told", (history[0][1][0] == 1,) + history[0][1][1:])), links),
                      (1, told_changed(history, ("told", text)), links), (1, told_changed(history, None), links),
                      (1, told_changed(history, ("merge", 0, 0, 0)), links)) + STRANGE:
            self.assertIs(reach_holds(TOLD, text, wrong), False, wrong)

    def test_papers_of_told_ones_and_of_what_never_comes(self):
        told = reach_paper(TOLD, TOLD[1])
        self.assertEqual(told, (None, (("told", TOLD[1]),), ()))
        self.assertIs(reach_holds(TOLD, TOLD[1], (None, (("told", TOLD[0]), ("told", TOLD[1]), ("merge", 0, 0, 1)), ())), True)
        links = front_links(TOLD)
        for wrong in ((None, (("told", TOLD[1]),), links), (None, (), ()), (None, (("told", TOLD[0]),), ()),
                      (None, (("told", TOLD[1]),), []), (3, (("told", TOLD[1]),), links), (-1, (), links),
                      (None, (("told", TOLD[0]), ("told", TOLD[1]), ("told", TOLD[2]), ("merge", 0, 1, 2)), ())):
            self.assertIs(reach_holds(TOLD, TOLD[1], wrong), False, wrong)
        never = reach_paper(TOLD, (3,))
        self.assertEqual(never[:2], (-1, ()))
        self.assertIs(reach_holds(TOLD, (3,), never), True)
        for wrong in ((-1, (("told", TOLD[0]),), links), (-1, [], links), (-1, None, links), (None, (), ()), (0, (), links),
                      (-1, (), ()), (-2, (), links)):
            self.assertIs(reach_holds(TOLD, (3,), wrong), False, wrong)
        # A merge over a base that is mine or yours goes at every distance.
        history = (("told", TOLD[0]), ("told", TOLD[1]), ("merge", 0, 1, 0))
        self.assertIs(reach_holds(TOLD, TOLD[1], (None, history, ())), True)

    def test_papers_by_the_words(self):
        generator = random.Random(333)
        held = {True: 0, False: 0}
        for _ in range(150):
            texts = random_lot(generator, 3, 2, 2)
            text = generator.choice(texts_to(3, 2))
            reach, history, links = reach_paper(texts, text)
            changed = [(one, other, max(0, number + generator.choice((0, 0, 1, -1)))) for one, other, number in links]
            changed = tuple(link for link in changed if generator.random() < 0.9)
            holds = are_fair(texts, changed) and not leads_at(texts, changed, as_number(reach) + 1, text)
            if reach is None:
                holds = changed == ()
            held[holds] += 1
            self.assertIs(reach_holds(texts, text, (reach, history, changed)), holds)
        self.assertGreater(min(held.values()), 20)

    def test_wrong_inputs(self):
        for function, more in ((text_reach, ()), (reach_paper, ()), (reach_holds, (None,))):
            for wrong in STRANGE:
                self.refuses(InvalidTexts, 1, function, [(), wrong], None, *more)
                self.refuses(InvalidText, -1, function, [(), (1,)], wrong, *more)
            for wrong in (None, 1, True, (), [], "a"):
                self.refuses(InvalidTexts, -1, function, wrong, None, *more)
            self.refuses(InvalidTexts, 2, function, [(), (1,), [1], None], (), *more)
