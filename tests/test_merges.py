"""Promises [11] to [15]: merges, claimed lines, corners, picks, pairs and histories."""

import random
from itertools import product

from cancelsback.errors import InvalidChanges, InvalidDeeds, InvalidHistory, InvalidIndex, InvalidText, Refused
from cancelsback.merges import back_pick, clash_lines, front_pick, history_texts, merge_cuts, merge_texts, merge_word
from cancelsback.merges import missing_base, missing_mine, missing_yours, nth_pair, pair_count, pair_place, pick_row
from cancelsback.merges import row_change
from cancelsback.texts import text_word, word_text
from cancelsback.words import join_words, undo_word
from tests.support import Case, STRANGE, texts_to

SMALL = texts_to(3, 2)
TRIPLES = list(product(SMALL, repeat=3))
FOUR = texts_to(2, 2) + [(0, 1, 0), (1, 1, 1)]


def cuts_by_words(base, mine, yours):
    """All lengths at which the base can be cut, as the promise tells it."""
    return [cut for cut in range(len(base) + 1)
            if mine[len(mine) - (len(base) - cut):] == base[cut:] and len(mine) >= len(base) - cut
            and yours[:cut] == base[:cut]]


def random_text(generator, length, letters=2):
    return tuple(generator.randrange(letters) for _ in range(generator.randint(0, length)))


class MergesTest(Case):

    def test_all_small_merges(self):
        for base, mine, yours in TRIPLES:
            cuts = cuts_by_words(base, mine, yours)
            came = {mine[:len(mine) - len(base) + cut] + yours[cut:] for cut in cuts}
            self.assertEqual(merge_cuts(base, mine, yours), tuple(cuts))
            self.assertLessEqual(len(came), 1)
            self.assertEqual(merge_texts(base, mine, yours), came.pop() if came else None)

    def test_long_merges(self):
        generator = random.Random(11)
        for _ in range(2000):
            base, mine, yours = [random_text(generator, 10) for _ in range(3)]
            cuts = cuts_by_words(base, mine, yours)
            self.assertEqual(merge_cuts(base, mine, yours), tuple(cuts))
            self.assertEqual(merge_texts(base, mine, yours) is None, not cuts)

    def test_one_text_three_times(self):
        for text in SMALL:
            self.assertEqual(merge_texts(text, text, text), text)
            self.assertEqual(merge_cuts(text, text, text), tuple(range(len(text) + 1)))
            self.assertIsNone(clash_lines(text, text, text))

    def test_empty_texts(self):
        self.assertEqual(merge_texts((), (1,), (2,)), (1, 2))
        self.assertEqual(merge_cuts((), (), ()), (0,))
        self.assertIsNone(merge_texts((1,), (), ()))
        self.assertEqual(clash_lines((1,), (), ()), (0, 1))

    def test_claimed_lines(self):
        for base, mine, yours in TRIPLES:
            mine_claims = [at for at in range(len(base)) if mine[len(mine) - len(base) + at:] != base[at:]
                           or len(mine) < len(base) - at]
            yours_claims = [at for at in range(len(base)) if yours[:at + 1] != base[:at + 1]]
            both = [at for at in mine_claims if at in yours_claims]
            expected = (both[0], both[-1] + 1) if both else None
            self.assertEqual(clash_lines(base, mine, yours), expected)
            self.assertEqual(expected is None, merge_texts(base, mine, yours) is not None)

    def test_the_word_of_a_merge(self):
        for base, mine, yours in TRIPLES:
            word = merge_word(base, mine, yours)
            self.assertEqual(word, join_words(join_words(text_word(mine), undo_word(text_word(base))),
                                              text_word(yours)))
            self.assertEqual(word_text(word), merge_texts(base, mine, yours))
            lines = clash_lines(base, mine, yours)
            if lines is not None:
                begin, end = lines
                kept = len(base) - end
                undone = undo_word(text_word(base[begin:end]))
                self.assertEqual(word, text_word(mine[:len(mine) - kept]) + undone + text_word(yours[begin:]))

    def test_other_corners(self):
        for mine, yours, came in product(FOUR, repeat=3):
            for function, place in ((missing_base, 0), (missing_mine, 1), (missing_yours, 2)):
                self.check_corner(function, place, (mine, yours, came))

    def check_corner(self, function, place, known):
        found = []
        for text in texts_to(6, 2):
            parts = list(known[:2])
            parts.insert(place, text)
            if merge_texts(*parts) == known[2]:
                found.append(text)
        answer = function(*known)
        if answer is None:
            self.assertEqual(found, [])
        else:
            self.assertEqual([text for text in found if text != answer], [])
            parts = list(known[:2])
            parts.insert(place, answer)
            self.assertEqual(merge_texts(*parts), known[2])

    def test_what_comes_as_base_comes_to_the_base(self):
        for base, mine, yours in TRIPLES:
            came = merge_texts(base, mine, yours)
            if came is not None:
                self.assertEqual(merge_texts(came, yours, mine), base)
                self.assertEqual(missing_base(mine, yours, came), base)
                self.assertEqual(missing_mine(base, yours, came), mine)
                self.assertEqual(missing_yours(base, mine, came), yours)

    def test_five_texts_in_three_orders(self):
        for a, b, c, d, e in product(texts_to(2, 2), repeat=5):
            inner = (merge_texts(b, a, c), merge_texts(d, c, e), merge_texts(c, d, b))
            ends = []
            if inner[0] is not None:
                ends.append(merge_texts(d, inner[0], e))
            if inner[1] is not None:
                ends.append(merge_texts(b, a, inner[1]))
            if inner[2] is not None:
                ends.append(merge_texts(inner[2], a, e))
            self.assertLessEqual(len(set(ends)), 1)

    def test_wrong_texts(self):
        for wrong in (None, True, 3, "a", (100,), (-1,), (True,), ("a",), ((),), [None]):
            for function in (merge_texts, merge_cuts, clash_lines, merge_word, missing_base, missing_mine,
                             missing_yours, front_pick, back_pick):
                self.refuses(InvalidText, 0, function, wrong, wrong, ())
                self.refuses(InvalidText, 1, function, (), wrong, wrong)
                self.refuses(InvalidText, 2, function, (), (), wrong)


class PicksTest(Case):

    def test_picks_are_merges(self):
        for text, old, new in TRIPLES:
            self.assertEqual(front_pick(text, old, new), merge_texts(old, new, text))
            self.assertEqual(back_pick(text, old, new), merge_texts(old, text, new))

    def test_a_pick_is_taken_back(self):
        for text, old, new in TRIPLES:
            for pick in (front_pick, back_pick):
                came = pick(text, old, new)
                if came is not None:
                    self.assertEqual(pick(came, new, old), text)

    def test_either_order(self):
        generator = random.Random(14)
        for _ in range(20000):
            text, old, new, other_old, other_new = [random_text(generator, 3) for _ in range(5)]
            first = pick_row(text, [("front", old, new), ("back", other_old, other_new)])
            second = pick_row(text, [("back", other_old, other_new), ("front", old, new)])
            if first[0] == second[0] == "comes":
                self.assertEqual(first, second)

    def test_pick_row(self):
        self.assertEqual(pick_row([1, 2], []), ("comes", (1, 2)))
        self.assertEqual(pick_row((), ()), ("comes", ()))
        deeds = [("front", (1,), (3, 3)), ["back", [2], []], ("front", (1,), ())]
        self.assertEqual(pick_row((1, 2), deeds[:2]), ("comes", (3, 3)))
        self.assertEqual(pick_row((1, 2), deeds), ("stuck", 2))
        generator = random.Random(15)
        for _ in range(2000):
            text = random_text(generator, 3)
            deeds = [(generator.choice(("front", "back")), random_text(generator, 2), random_text(generator, 2))
                     for _ in range(generator.randint(0, 7))]
            self.assertEqual(pick_row(text, deeds), self.picked(text, deeds))

    def picked(self, text, deeds):
        for at, (side, old, new) in enumerate(deeds):
            text = front_pick(text, old, new) if side == "front" else back_pick(text, old, new)
            if text is None:
                return "stuck", at
        return "comes", text

    def test_wrong_deeds(self):
        good = ("front", (1,), ())
        for wrong in (None, True, 1, "front", (), ("front",), ("front", ()), ("front", (), (), ()), ("side", (), ()),
                      (None, (), ()), ("front", (100,), ()), ("back", (), None), ("back", (True,), ()), (["front"], (), ())):
            self.refuses(InvalidDeeds, 0, pick_row, (), [wrong])
            self.refuses(InvalidDeeds, 1, pick_row, (), (good, wrong, wrong))
        for wrong in (None, 0, True, "front"):
            self.refuses(InvalidDeeds, -1, pick_row, (), wrong)
        self.refuses(InvalidText, -1, pick_row, (True,), None)

    def test_row_change(self):
        self.assertEqual(row_change(()), ("change", (), ()))
        self.assertEqual(row_change([((0,), (1,)), ((2,), (3,))]), ("never", 1))
        self.assertEqual(row_change([[[], [1]], [[1, 2], []]]), ("change", (2,), ()))
        self.assertEqual(row_change([((0, 1), (2, 1))]), ("change", (0,), (2,)))

    def test_row_change_against_all_texts(self):
        generator = random.Random(16)
        texts = texts_to(6, 2)
        for _ in range(400):
            changes = [(random_text(generator, 2), random_text(generator, 2)) for _ in range(generator.randint(0, 3))]
            goes = {}
            for text in texts:
                answer = pick_row(text, [("front", old, new) for old, new in changes])
                if answer[0] == "comes":
                    goes[text] = answer[1]
            told = row_change(changes)
            if told[0] == "change":
                least, came = told[1:]
                expected = {text: came + text[len(least):] for text in texts if text[:len(least)] == least}
                self.assertEqual(goes, expected)
            else:
                self.assertEqual(goes, {})
                self.assertEqual(row_change(changes[:told[1]])[0], "change")

    def test_wrong_changes(self):
        for wrong in (None, 1, "ab", (), ((),), ((), (), ()), ((), None), ((True,), ()), ((100,), ())):
            self.refuses(InvalidChanges, 0, row_change, [wrong])
            self.refuses(InvalidChanges, 2, row_change, [((), ()), ((1,), (2,)), wrong, wrong])
        for wrong in (None, 1, True, "ab"):
            self.refuses(InvalidChanges, -1, row_change, wrong)
        self.refuses(InvalidChanges, 2, row_change, [((0,), (1,)), ((2,), (3,)), None])


class PairsTest(Case):

    def test_pairs_by_count_number_and_place(self):
        small = texts_to(4, 2)
        for base, came in product(FOUR, repeat=2):
            pairs = sorted((mine, yours) for mine, yours in product(small, repeat=2)
                           if len(mine) + len(yours) == len(base) + len(came)
                           and merge_texts(base, mine, yours) == came)
            pairs = [pair for pair in pairs] if len(base) + len(came) <= 4 else None
            many = pair_count(base, came)
            numbered = [nth_pair(base, came, number) for number in range(many)]
            if pairs is not None:
                self.assertEqual(numbered, pairs)
            self.assertEqual(numbered, sorted(set(numbered)))
            for number, (mine, yours) in enumerate(numbered):
                self.assertEqual(merge_texts(base, mine, yours), came)
                self.assertEqual(pair_place(base, came, mine, yours), number)
            for wrong in (many, -1, True, None, "0", (0,)):
                self.refuses(InvalidIndex, -1, nth_pair, base, came, wrong)

    def test_greatest_pairs(self):
        base, came = (0, 1, 0, 1, 0), (1, 0, 1, 1, 1)
        many = pair_count(base, came)
        self.assertEqual(many, 36 - 11)
        self.assertEqual(len({nth_pair(base, came, number) for number in range(many)}), many)
        self.assertEqual(pair_count((), ()), 1)
        self.assertEqual(nth_pair((), (), 0), ((), ()))

    def test_pairs_that_do_not_come(self):
        self.refuses(Refused, "pair", pair_place, (1,), (2,), (1,), (1,))
        self.refuses(Refused, "pair", pair_place, (1, 2), (1, 2), (1, 3), (1, 4))
        for at in range(4):
            parts = [(1,), (1,), (1,), (1,)]
            parts[at:] = [None] * (4 - at)
            self.refuses(InvalidText, at, pair_place, *parts)
        for function in (pair_count, lambda base, came: nth_pair(base, came, -1)):
            self.refuses(InvalidText, 0, function, None, None)
            self.refuses(InvalidText, 1, function, (), (True,))


class HistoriesTest(Case):

    def test_texts_of_steps(self):
        history = [("told", [1]), ["told", ()], ("merge", 1, 0, 0), ["merge", 0, 2, 2]]
        self.assertEqual(history_texts(history), ((1,), (), (1, 1), (1, 1, 1)))
        self.assertEqual(history_texts([("told", ())]), ((),))
        history = [("told", (1, 2)), ("told", (3, 2)), ("told", (1, 4)), ("merge", 0, 1, 2)]
        self.assertEqual(history_texts(history)[3], (3, 4))

    def test_clashes(self):
        history = [("told", (1, 2)), ("told", (1, 3)), ("merge", 0, 1, 1), ("merge", 0, 0, 0)]
        self.refuses(Refused, 2, history_texts, history)
        self.refuses(InvalidHistory, 4, history_texts, history + [("merge", 0, 0, 9)])

    def test_wrong_histories(self):
        for wrong in (None, (), [], 1, True, "told"):
            self.refuses(InvalidHistory, -1, history_texts, wrong)
        for wrong in (None, 1, "told", ("told",), ("told", (100,)), ("told", (), ()), ("merge", 0, 0), ("merge", 0, 0, 1),
                      ("merge", 0, 0, True), ("merge", 0, -1, 0), ("merge", 0, 0, 0, 0), ("version", 0), (0, 0), (), ("tell", ()),
                      ("front", 0, 0, 0), (None, 0, 0, 0)):
            self.refuses(InvalidHistory, 1, history_texts, [("told", ()), wrong, wrong])
        self.refuses(InvalidHistory, 0, history_texts, [("merge", 0, 0, 0)])
        for wrong in STRANGE:
            self.assertRaises(InvalidHistory, history_texts, wrong)
