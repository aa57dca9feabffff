"""Promises [16] to [21]: what can come and its papers, rows, two lots, counts, endless ones, wished numbers."""

import random
from itertools import product

from cancelsback.coming import can_come, closed_paper, coming_count, coming_holds, coming_paper, coming_place
from cancelsback.coming import coming_rest, endless_holds, endless_paper, least_apart, least_told, more_paper, nth_coming
from cancelsback.coming import row_text, versions_bringing
from cancelsback.errors import InvalidIndex, InvalidRow, InvalidSize, InvalidText, InvalidTexts, Refused
from cancelsback.merges import history_texts, merge_texts
from cancelsback.releases import over_paper
from cancelsback.texts import text_word, word_text
from cancelsback.webs import Web, reads_text, told_web
from cancelsback.words import join_words, undo_word
from tests.support import Case, STRANGE, folded_reader, random_lot, texts_to

TOLD = [(1, 2), (1, 3, 2)]
CLOSED = [(1, 2), (3, 2), (1, 4), (3, 4)]
NO_NUMBERS = (None, True, -1, "1", (), [0])


def random_question(generator, most=4, length=4):
    letters = generator.choice((1, 2, 2, 3))
    return random_lot(generator, generator.randint(1, most), length, letters), letters


def in_order(texts):
    """Shorter texts first, equally long ones ascending."""
    return sorted(texts, key=lambda text: (len(text), text))


def texts_or_none(history):
    try:
        return history_texts(history)
    except Refused:
        return None


def row_of_step(history, texts, at):
    """The row of told places that a step's product is."""
    step = history[at]
    if step[0] == "told":
        return (texts.index(step[1]),)
    base, mine, yours = [row_of_step(history, texts, part) for part in step[1:]]
    return mine + base[::-1] + yours


class ComingTest(Case):

    def test_small_ones(self):
        generator = random.Random(161)
        words = set()
        for _ in range(150):
            texts, letters = random_question(generator)
            reads = folded_reader(texts)
            for text in texts_to(4, letters):
                comes = can_come(texts, text)
                self.assertIs(comes, reads(text))
                paper = coming_paper(texts, text)
                words.add(paper[0])
                self.assertEqual(paper[0], "comes" if comes else "never")
                self.assertIs(coming_holds(texts, text, paper), True)
                if comes:
                    self.check_history(texts, text, paper[1])
                else:
                    self.assertTrue(all(reads_text(paper[1], told) for told in texts))
                    self.assertFalse(reads_text(paper[1], text))
        self.assertEqual(words, {"comes", "never"})

    def check_history(self, texts, text, history):
        came = history_texts(history)
        self.assertEqual(came[-1], text)
        self.assertTrue(all(step[1] in texts for step in history if step[0] == "told"))
        total = sum(len(told) for told in texts)
        merges = [step for step in history if step[0] == "merge"]
        self.assertLessEqual(len(merges), len(text) + 2 * total * (total + 1))
        self.assertLessEqual(max(len(part) for part in came), len(text) + 2 * max(len(told) for told in texts) + 1)

    def test_all_that_is_merged_comes(self):
        generator = random.Random(162)
        for _ in range(60):
            texts, _ = random_question(generator, 3, 3)
            came = list(texts)
            for _ in range(200):
                text = merge_texts(*[generator.choice(came) for _ in range(3)])
                if text is not None and text not in came and len(text) <= 8:
                    came.append(text)
            for text in came:
                self.assertIs(can_come(texts, text), True)

    def test_as_over_all_versions_released(self):
        generator = random.Random(163)
        for _ in range(60):
            texts, letters = random_question(generator, 3, 4)
            for text in texts_to(3, letters):
                self.assertEqual(can_come(texts, text), over_paper(texts, texts, text)[0] == "row")

    def test_some(self):
        self.assertIs(can_come([()], ()), True)
        self.assertEqual(coming_paper([()], ()), ("comes", (("told", ()),)))
        self.assertEqual(coming_paper([()], (0,)), ("never", Web(1, [], 0, 0)))
        self.assertIs(can_come([(1, 2)], (1, 2)), True)
        self.assertIs(can_come([(1, 2)], ()), False)
        self.assertIs(can_come([(1, 2), (1, 3, 2)], (1, 3, 3, 3, 2)), True)
        self.assertIs(can_come([(0,), (0, 0)], ()), True)

    def test_history_papers_changed(self):
        text = (1, 3, 3, 2)
        history = (("told", (1, 2)), ("told", (1, 3, 2)), ("merge", 0, 1, 1))
        self.assertIs(coming_holds(TOLD, text, ("comes", history)), True)
        self.assertIs(coming_holds(TOLD, text, ("comes", history + history[2:])), True)
        self.assertIs(coming_holds(TOLD, (1, 3, 2), ("comes", history)), False)
        for at, step in ((0, ("told", (1, 4))), (0, ("told", [1, 2])), (0, ["told", (1, 2)]), (0, ("told", (True, 2))),
                         (0, ("tell", (1, 2))), (0, ("told",)), (0, None), (2, ("merge", 0, 1, 2)), (2, ("merge", 0, 1)),
                         (2, ("merge", 0, True, 1)), (2, ("merge", 0, 1, -1)), (2, ["merge", 0, 1, 1]),
                         (2, ("merge", 1, 0, 0)), (2, ("told", (1, 2)))):
            self.assertIs(coming_holds(TOLD, text, ("comes", history[:at] + (step,) + history[at + 1:])), False)
        self.assertIs(coming_holds(TOLD, text, ("comes", (("told", text),))), False)
        for value in (("comes", history[:2]), ("comes", ()), ("comes", list(history)), ["comes", history],
                      ("comes", history, ()), ("never", history), ("comes", None), ("come", history), ("comes",)):
            self.assertIs(coming_holds(TOLD, text, value), False)

    def test_clashing_merges_do_not_hold(self):
        history = (("told", (1, 2)), ("told", (1, 3)), ("told", (4, 2)), ("merge", 0, 1, 1), ("told", (1, 2)))
        self.assertIs(coming_holds([(1, 2), (1, 3), (4, 2)], (1, 2), ("comes", history)), False)
        self.assertIs(coming_holds([(1, 2), (1, 3), (4, 2)], (1, 2), ("comes", history[:3] + history[4:])), True)

    def test_web_papers_changed(self):
        web = told_web(TOLD)
        self.assertIs(coming_holds(TOLD, (1,), ("never", web)), True)
        self.assertIs(coming_holds(TOLD, (1, 3, 2), ("never", web)), False)
        self.assertIs(coming_holds(TOLD, (2,), ("never", told_web([(1, 2)]))), False)
        self.assertIs(coming_holds(TOLD, (1, 2, 3), ("never", told_web(TOLD + [(1, 5, 2)]))), True)
        for value in (("nope", web), ("never", None), ("never", (web,)), ["never", web], ("never",), ("comes", web), web, ("never", web, web)):
            self.assertIs(coming_holds(TOLD, (1,), value), False)
        for value in STRANGE:
            self.assertIs(coming_holds(TOLD, (1, 2), value), False)
            self.assertIs(coming_holds(TOLD, (1, 2), ("comes", value)), False)

    def test_long_histories_hold(self):
        history = [("told", (1, 2)), ("told", (1, 3, 2))]
        for at in range(40):
            history.append(("merge", 0, len(history) - 1, 1))
        self.assertIs(coming_holds(TOLD, (1,) + (3,) * 41 + (2,), ("comes", tuple(history))), True)

    def test_greatest(self):
        generator = random.Random(164)
        for letters in (1, 2, 3, 9):
            texts = random_lot(generator, 7, 7, letters)
            for length in (0, 7, 20, 45):
                text = tuple(generator.randrange(letters) for _ in range(length))
                paper = coming_paper(texts, text)
                self.assertIs(coming_holds(texts, text, paper), True)
                if paper[0] == "comes":
                    self.check_history(texts, text, paper[1])
        paper = coming_paper([(1, 2), (1, 3, 2)], (1,) + (3,) * 43 + (2,))
        self.check_history(TOLD, (1,) + (3,) * 43 + (2,), paper[1])

    def test_wrong_inputs(self):
        for function in (can_come, coming_paper, coming_place):
            for text in STRANGE:
                self.refuses(InvalidText, -1, function, TOLD, text)
        for function, more in ((can_come, 1), (coming_paper, 1), (coming_holds, 2), (row_text, 1), (more_paper, 1),
                               (least_apart, 1), (closed_paper, 0), (coming_count, 1), (coming_rest, 2), (nth_coming, 1),
                               (coming_place, 1), (endless_paper, 0), (endless_holds, 1)):
            for texts in (None, (), [], 3, "a"):
                self.refuses(InvalidTexts, -1, function, texts, *[None] * more)
            for wrong in STRANGE + ((2,),):
                if wrong != "":
                    self.refuses(InvalidTexts, 1, function, [(2,), wrong, None], *[None] * more)
        self.refuses(InvalidText, -1, coming_holds, TOLD, None, None)
        for function in (more_paper, least_apart):
            self.refuses(InvalidTexts, -1, function, TOLD, None)
            self.refuses(InvalidTexts, 2, function, TOLD, TOLD + TOLD)


class RowsTest(Case):

    def test_products(self):
        generator = random.Random(171)
        found = set()
        for _ in range(1500):
            texts, _ = random_question(generator)
            row = [generator.randrange(len(texts)) for _ in range(generator.choice((1, 3, 5, 7, 15)))]
            word = ()
            for at, place in enumerate(row):
                part = text_word(texts[place])
                word = join_words(word, undo_word(part) if at % 2 else part)
            text = row_text(texts, row)
            self.assertEqual(text, word_text(word))
            found.add(text is None)
            if text is not None:
                self.assertIs(can_come(texts, text), True)
        self.assertEqual(found, {True, False})

    def test_all_that_comes_has_a_row(self):
        generator = random.Random(172)
        for _ in range(60):
            texts, letters = random_question(generator, 3, 3)
            for text in texts_to(3, letters):
                if can_come(texts, text):
                    history = coming_paper(texts, text)[1]
                    self.assertEqual(row_text(texts, row_of_step(history, texts, len(history) - 1)), text)

    def test_some(self):
        self.assertEqual(row_text([(1, 2), (3, 2), (1, 4)], (1, 0, 2)), (3, 4))
        self.assertIsNone(row_text([(1, 2), (3, 2), (1, 4)], (0, 1, 2)))
        self.assertEqual(row_text([(1,)], [0]), (1,))
        self.assertEqual(row_text([(1,)], [0] * 15), (1,))
        # Its first three have no text.
        self.assertEqual(row_text([(1,), (3, 2), (3,)], (0, 1, 2, 2, 1)), (1,))
        self.assertIsNone(row_text([(1,), (3, 2), (3,)], (0, 1, 2)))

    def test_wrong_rows(self):
        for row in (None, (), (0, 0), "a", 0, [None, None]):
            self.refuses(InvalidRow, -1, row_text, TOLD, row)
        for place in (2, -1, True, None, "0", (0,)):
            self.refuses(InvalidRow, 1, row_text, TOLD, (0, place, None))


class LotsTest(Case):

    def test_small_ones(self):
        generator = random.Random(181)
        kinds = set()
        texts = in_order(texts_to(6, 2))
        for _ in range(300):
            one, other = random_lot(generator, 3, 3, 2), random_lot(generator, 3, 3, 2)
            missing = [at for at, text in enumerate(one) if not can_come(other, text)]
            self.assertEqual(more_paper(one, other), missing[0] if missing else None)
            apart = least_apart(one, other)
            self.assertEqual(apart is None, more_paper(one, other) is None and more_paper(other, one) is None)
            kinds.add((apart is None, missing == []))
            reads, twin = folded_reader(one), folded_reader(other)
            expected = [text for text in texts if reads(text) != twin(text)][:1]
            if apart is not None:
                self.assertLess(len(apart), told_web(one).places + told_web(other).places)
                self.assertNotEqual(reads(apart), twin(apart))
            if expected or (apart is not None and len(apart) <= 6):
                self.assertEqual([apart], expected)
            if not missing:
                self.assertTrue(all(twin(text) for text in texts if reads(text)))
        self.assertEqual(len(kinds), 3)

    def test_some(self):
        self.assertIsNone(more_paper([(0, 0, 0)], [(0,), (0, 0)]))
        self.assertEqual(more_paper([(0,), (1,)], [(0,), (0, 0)]), 1)
        self.assertEqual(least_apart([()], [(0,), (1,)]), ())
        self.assertIsNone(least_apart([(0,), (0, 0)], [(0, 0), (), (0, 0, 0)]))

    def test_closed(self):
        generator = random.Random(182)
        words = set()
        for _ in range(500):
            texts, _ = random_question(generator, 4, 3)
            adding = [places for places in product(range(len(texts)), repeat=3)
                      if merge_texts(*[texts[place] for place in places]) not in texts + [None]]
            paper = closed_paper(texts)
            words.add((paper[0], len(texts) > 1))
            self.assertEqual(paper, ("adds", adding[0]) if adding else ("closed",))
            self.assertEqual(paper == ("closed",), endless_paper(texts) == ("finite", len(texts)))
        self.assertEqual(len(words), 3)

    def test_some_closed(self):
        self.assertEqual(closed_paper([()]), ("closed",))
        self.assertEqual(closed_paper(CLOSED), ("closed",))
        self.assertEqual(closed_paper(CLOSED[:3]), ("adds", (0, 1, 2)))
        self.assertEqual(closed_paper([(0,), (0, 0)]), ("adds", (0, 1, 1)))
        self.assertEqual(closed_paper([(0, 0), (0,)]), ("adds", (0, 1, 1)))

    def test_many_closed(self):
        """All that can come of nine versions, each of which has another line in one place."""
        texts = [tuple(10 + at if at == to else at for at in range(8)) for to in range(9)]
        every = [nth_coming(texts, number) for number in range(256)]
        self.assertEqual(closed_paper(every), ("closed",))
        self.assertEqual(endless_paper(every), ("finite", 256))
        self.assertEqual(closed_paper(every[1:])[0], "adds")


class CountsTest(Case):

    def test_small_ones(self):
        generator = random.Random(191)
        for _ in range(150):
            texts, letters = random_question(generator)
            reads = folded_reader(texts)
            every = [text for text in in_order(texts_to(5, letters)) if reads(text)]
            for length in range(6):
                count = len([text for text in every if len(text) == length])
                self.assertEqual(coming_count(texts, length), count)
                for modulus in (1, 2, 5):
                    self.assertEqual(coming_rest(texts, length, modulus), count % modulus)
            for number, text in enumerate(every):
                self.assertEqual(nth_coming(texts, number), text)
                self.assertEqual(coming_place(texts, text), number)

    def test_longer_ones(self):
        generator = random.Random(192)
        for _ in range(40):
            texts, _ = random_question(generator, 5, 7)
            for length in (0, 1, 17, 40, 100):
                count = coming_count(texts, length)
                for modulus in (1, 2, 97, 10 ** 9 + 1000):
                    self.assertEqual(coming_rest(texts, length, modulus), count % modulus)

    def test_greatest(self):
        texts = [(0,), (1,), (0, 0), (1, 0), (2, 2, 2), (2, 2)]
        self.assertEqual(coming_count(texts, 40), 3 ** 40)
        self.assertEqual(coming_rest(texts, 10 ** 18 + 40, 10 ** 9 + 1000), pow(3, 10 ** 18 + 40, 10 ** 9 + 1000))
        # Of 0, 1 and 0 1 the texts of all lengths from 1 on come, but not the empty one alone: as many each time.
        number = 10 ** 20 + 40
        text = nth_coming(texts, number)
        self.assertEqual(coming_place(texts, text), number)
        self.assertEqual(len(text), 42)
        wide = [tuple(at * 8 + place for place in range(7)) for at in range(9)]
        self.assertEqual(coming_rest(wide, 10 ** 18 + 40, 10 ** 9 + 1000), 0)
        self.assertEqual(coming_rest(wide, 7, 10 ** 9 + 1000), 9)

    def test_numbers_of_finitely_many(self):
        for texts, many in (([()], 1), (CLOSED[:3], 4), ([(5,), (6,), (7,)], 3)):
            self.assertEqual([coming_place(texts, nth_coming(texts, number)) for number in range(many)], list(range(many)))
            for number in (many, many + 1, 10 ** 20 + 40):
                self.refuses(InvalidIndex, -1, nth_coming, texts, number)
        for number in NO_NUMBERS:
            self.refuses(InvalidIndex, -1, nth_coming, TOLD, number)

    def test_no_place(self):
        self.refuses(Refused, -1, coming_place, TOLD, (1,))
        self.refuses(Refused, -1, coming_place, TOLD, (1, 2, 2))

    def test_wrong_sizes(self):
        for length in NO_NUMBERS:
            self.refuses(InvalidSize, "length", coming_count, TOLD, length)
            self.refuses(InvalidSize, "length", coming_rest, TOLD, length, None)
        for modulus in NO_NUMBERS + (0,):
            self.refuses(InvalidSize, "modulus", coming_rest, TOLD, 10 ** 18, modulus)


class EndlessTest(Case):

    def test_small_ones(self):
        generator = random.Random(201)
        words = set()
        for _ in range(400):
            texts, letters = random_question(generator)
            paper = endless_paper(texts)
            words.add(paper[0])
            self.assertIs(endless_holds(texts, paper), True)
            if paper[0] == "finite":
                self.assertLessEqual(paper[1], 2 ** (len(texts) - 1))
                self.assertEqual(sum(coming_count(texts, length) for length in range(40)), paper[1])
                self.check_nothing_put_in(texts, paper[1])
            else:
                head, ring, tail = paper[1:]
                self.assertNotEqual(ring, ())
                for times in range(5):
                    self.assertIs(can_come(texts, head + ring * times + tail), True)
                once = head + ring + tail
                self.assertEqual(merge_texts(head + tail, once, once), head + ring * 2 + tail)
        self.assertEqual(words, {"finite", "endless"})

    def check_nothing_put_in(self, texts, many):
        every = [nth_coming(texts, number) for number in range(many)]
        for one in every:
            for other in every:
                cuts = [at for at in range(len(one) + 1)
                        if other[:at] == one[:at] and one[at:] == other[len(other) - len(one) + at:]]
                self.assertTrue(len(other) <= len(one) or cuts == [])

    def test_just_so_many(self):
        """Of n versions, each with another line in one place, 2 to the power of n - 1 can come."""
        for many in range(1, 10):
            texts = [tuple(10 + at if at == to else at for at in range(many - 1)) for to in range(many)]
            self.assertEqual(endless_paper(texts), ("finite", 2 ** (many - 1)))
        texts = [(at // 5, 10 + at % 5, 20, 30 + at) for at in range(16)]
        self.assertEqual(endless_paper(texts)[0], "finite")
        self.assertIs(endless_holds(texts, endless_paper(texts)), True)

    def test_papers_changed(self):
        self.assertIs(endless_holds(CLOSED, ("finite", 4)), True)
        for value in (("finite", 3), ("finite", 5), ("finite", True), ("finite",), ["finite", 4], ("finite", 4, 4),
                      ("endless", 4), ("finite", "4"), ("endless", (1,), (), (2,)), ("endless", (), (1, 2), ())):
            self.assertIs(endless_holds(CLOSED, value), False)
        self.assertIs(endless_holds([(1,)], ("finite", True)), False)
        self.assertIs(endless_holds([(1,)], ("finite", 1)), True)
        self.assertIs(endless_holds(TOLD, ("endless", (1,), (3,), (2,))), True)
        self.assertIs(endless_holds(TOLD, ("endless", (1, 3), (3, 3), (3, 2))), True)
        for value in (("endless", (1,), (), (2,)), ("endless", (1,), (3,), ()), ("endless", (), (3,), (2,)),
                      ("endless", [1], (3,), (2,)), ("endless", (1,), (4,), (2,)), ["endless", (1,), (3,), (2,)],
                      ("endless", (True,), (3,), (2,)), ("endless", (1,), (3,)), ("finite", (1,), (3,), (2,)),
                      ("finite", 2), ("endless", (1,), (3,), (2,), ())):
            self.assertIs(endless_holds(TOLD, value), False)
        for value in STRANGE + (("finite", ()), ("endless", None, None, None)):
            self.assertIs(endless_holds(TOLD, value), False)


def fewest_sums(most):
    """For each number to the most the length of a shortest row of sums, by trying all rows."""
    known = {1: 1}
    rows = [(1,)]
    length = 1
    while len(known) < most:
        length += 1
        longer = set()
        for row in rows:
            for one in row:
                for other in row:
                    if row[-1] < one + other <= most:
                        longer.add(row + (one + other,))
        for row in longer:
            known.setdefault(row[-1], length)
        rows = sorted(longer)
    return known


class WishedTest(Case):

    def test_all(self):
        known = fewest_sums(31)
        for number in range(1, 41):
            texts = versions_bringing(number)
            self.assertEqual(len(texts), least_told(number))
            self.assertEqual(len(set(texts)), len(texts))
            self.assertEqual(endless_paper(texts), ("finite", number))
            if number in known:
                self.assertEqual(least_told(number), known[number])
        self.assertEqual([least_told(number) for number in (1, 2, 3, 4, 7, 8, 31, 39, 40)], [1, 2, 3, 3, 5, 4, 8, 8, 7])

    def test_no_fewer(self):
        generator = random.Random(211)
        numbers = set()
        for _ in range(3000):
            texts = random_lot(generator, 4, 3, generator.choice((2, 3, 4)))
            paper = endless_paper(texts)
            if paper[0] == "finite":
                numbers.add((len(texts), paper[1]))
        for many, number in numbers:
            self.assertLessEqual(least_told(number), many)
        self.assertLessEqual({(4, 8), (4, 6), (4, 5), (3, 4), (3, 3)}, numbers)

    def test_wrong_numbers(self):
        for function in (least_told, versions_bringing):
            for number in NO_NUMBERS + (0, 41, 10 ** 20):
                self.refuses(InvalidSize, "number", function, number)
