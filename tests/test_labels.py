"""Promises [47] and [48]: labels, what a merge settles, the kept label."""

import random
from itertools import permutations, product

from cancelsback.errors import InvalidLabel, InvalidMarks, InvalidText
from cancelsback.labels import Label, kept_label, settled_holds, settled_paper
from cancelsback.merges import merge_texts
from tests.support import Case, STRANGE, texts_to

EVEN = Label([(1, 0), (0, 1)], [3, 5])
ONCE = Label([(1, 0), (1, 1)], [0, 1])


def random_label(generator, most=5, marks=3):
    many, letters = generator.randint(1, most), generator.randint(1, 3)
    if generator.random() < 0.5:
        columns = [generator.sample(range(many), many) for _ in range(letters)]
    else:
        columns = [[generator.randrange(many) for _ in range(many)] for _ in range(letters)]
    moves = [tuple(column[place] for column in columns) for place in range(many)]
    return Label(moves, [generator.randrange(marks) for _ in range(many)])


def group_labels():
    """Labels of one to three letters whose places are the elements of small groups, each its own mark."""
    found = []
    for base in (1, 2, 3):
        perms = list(permutations(range(base)))
        for letters in (1, 2, 3):
            for moves in product(perms, repeat=letters):
                order = [tuple(range(base))]
                for here in order:
                    for move in moves:
                        there = tuple(move[at] for at in here)
                        if there not in order:
                            order.append(there)
                rows = [[order.index(tuple(move[at] for at in here)) for move in moves] for here in order]
                found.append(Label(rows, list(range(len(rows)))))
    for many in (4, 5, 6):
        for letters in (1, 2):
            for steps in product(range(many), repeat=letters):
                rows = [[(place + step) % many for step in steps] for place in range(many)]
                found.append(Label(rows, list(range(many))))
    return found


def hangs(label, other):
    """Whether texts with like marks of the other label have like marks of this one: by pairs of places."""
    pairs = {(0, 0)}
    waiting = [(0, 0)]
    for one, two in waiting:
        for letter in range(len(label.moves[0])):
            pair = (label.moves[one][letter], other.moves[two][letter])
            if pair not in pairs:
                pairs.add(pair)
                waiting.append(pair)
    marks = {}
    return all(marks.setdefault(other.marks[two], label.marks[one]) == label.marks[one] for one, two in pairs)


def marks_of_texts(label):
    reached = [0]
    for place in reached:
        reached.extend({to for to in label.moves[place] if to not in reached})
    return sorted({label.marks[place] for place in reached})


class LabelTest(Case):

    def test_attributes(self):
        label = Label([[1, 0], [0, 1]], (3, 5))
        self.assertEqual((label.moves, label.marks), (((1, 0), (0, 1)), (3, 5)))
        self.assertEqual(label, Label(marks=[3, 5], moves=((1, 0), (0, 1))))
        for other in (ONCE, Label([(1, 0), (0, 1)], [3, 6]), Label([(1, 0), (1, 1)], [3, 5]), (label.moves, label.marks), None, 5):
            self.assertFalse(label == other)
            self.assertTrue(label != other)
        self.assertRaises(TypeError, iter, label)
        self.assertRaises(TypeError, len, label)

    def test_marks_of_texts(self):
        label = Label([(1, 2), (1, 0), (0, 0)], [7, 10 ** 22, 9])
        for text in texts_to(4, 2):
            place = 0
            for letter in text:
                place = label.moves[place][letter]
            self.assertEqual(label.mark_of(text), label.marks[place])
        self.assertEqual(label.mark_of([1]), 9)
        for text in STRANGE + ((2,), (0, 1, 2), (99,)):
            self.refuses(InvalidText, -1, label.mark_of, text)

    def test_wrong_moves(self):
        for moves in (None, (), [(0,)] * 9, 3, "ab"):
            self.refuses(InvalidLabel, -1, Label, moves, None)
        for row in STRANGE + ((), (0, 0, 0), (0,), (0, 3), (0, True), (0, -1), "01"):
            self.refuses(InvalidLabel, 1, Label, [(0, 0), row, None], None)
        for row in ((), (0,) * 4, None, (3,)):
            self.refuses(InvalidLabel, 0, Label, [row, (0,), (0,)], None)
        self.refuses(InvalidLabel, 2, Label, [(0,), (1,), (0, 0)], None)
        self.assertEqual(len(Label([(7, 0, 3)] * 8, range_list(8)).moves), 8)

    def test_wrong_marks(self):
        moves = [(0,), (1,), (2,)]
        for marks in (None, (), (1, 2), (1, 2, 3, 4), 3, "abc"):
            self.refuses(InvalidMarks, -1, Label, moves, marks)
        for mark in (None, True, -1, "1", (1,)):
            self.refuses(InvalidMarks, 1, Label, moves, (0, mark, None))


def range_list(many):
    return list(range(many))


class SettledTest(Case):

    def check_unlike(self, label, one, other):
        kinds = []
        for merge in (one, other):
            came = merge_texts(*merge)
            self.assertIsNotNone(came)
            kinds.append(([label.mark_of(text) for text in merge], label.mark_of(came)))
        self.assertEqual(kinds[0][0], kinds[1][0])
        self.assertNotEqual(kinds[0][1], kinds[1][1])
        self.assertTrue(one[0] == other[0] == () or one[2] == other[2] == ())

    def test_small_ones(self):
        generator = random.Random(471)
        words = set()
        for _ in range(400):
            label = random_label(generator)
            paper = settled_paper(label)
            words.add((paper[0], len(paper[1]) > 1))
            self.assertIs(settled_holds(label, paper), True)
            if paper[0] == "unlike":
                self.check_unlike(label, *paper[1:])
            else:
                self.assertEqual(list(paper[1]), marks_of_texts(label))
                self.check_group(label, paper)
        self.assertEqual(len(words), 3)

    def check_group(self, label, paper):
        _, marks, products = paper
        letters = len(label.moves[0])
        length = {1: 8, 2: 4, 3: 3}[letters]
        texts = texts_to(length, letters)
        for one, other in product(texts, repeat=2):
            row = products[marks.index(label.mark_of(one))]
            self.assertEqual(row[marks.index(label.mark_of(other))], label.mark_of(one + other))
        for row in products:
            self.assertEqual(sorted(row), list(marks))
        for column in zip(*products):
            self.assertEqual(sorted(column), list(marks))
        known = {}
        for merge in product(texts_to(2, letters), repeat=3):
            came = merge_texts(*merge)
            if came is not None:
                mark = known.setdefault(tuple(label.mark_of(text) for text in merge), label.mark_of(came))
                self.assertEqual(mark, label.mark_of(came))

    def test_some(self):
        self.assertEqual(settled_paper(EVEN), ("group", (3, 5), ((3, 5), (5, 3))))
        self.assertEqual(settled_paper(Label([(0,)], [4])), ("group", (4,), ((4,),)))
        self.assertEqual(settled_paper(Label([(1,), (2,), (0,)], [9, 4, 6])), ("group", (4, 6, 9), ((6, 9, 4), (9, 4, 6), (4, 6, 9))))
        # The mark of a place to which no text leads is none of texts.
        self.assertEqual(settled_paper(Label([(0,), (1,)], [4, 5])), ("group", (4,), ((4,),)))
        self.assertEqual(settled_paper(ONCE)[0], "unlike")
        self.check_unlike(ONCE, *settled_paper(ONCE)[1:])
        # What stands in front is settled nowhere, though what stands behind is.
        ahead = Label([(1, 2), (0, 3), (2, 2), (3, 3)], [0, 1, 0, 1])
        self.assertEqual(settled_paper(ahead)[0], "unlike")
        self.check_unlike(ahead, *settled_paper(ahead)[1:])

    def test_groups_are_settled(self):
        for label in group_labels():
            self.assertEqual(settled_paper(label)[0], "group")

    def test_papers_changed(self):
        good = ("group", (3, 5), ((3, 5), (5, 3)))
        self.assertIs(settled_holds(EVEN, good), True)
        for value in (("group", (5, 3), ((3, 5), (5, 3))), ("group", (3, 5), ((3, 5), (3, 5))), ("group", (3, 5)), list(good),
                      ("group", [3, 5], ((3, 5), (5, 3))), ("group", (3, 5), ((3, 5), [5, 3])), ("unlike",) + good[1:],
                      ("group", (3, 5), ((3, 5),)), good + ((),), ("unlike", ((), (0,), (0,)), ((), (0,), (1,)))):
            self.assertIs(settled_holds(EVEN, value), False)
        self.assertIs(settled_holds(Label([(0,)], [1]), ("group", (1,), ((1,),))), True)
        self.assertIs(settled_holds(Label([(0,)], [1]), ("group", (True,), ((1,),))), False)
        good = ("unlike", ((0,), (0, 0), ()), ((0,), (0,), ()))
        self.assertIs(settled_holds(ONCE, good), True)
        self.assertIs(settled_holds(ONCE, ("unlike", good[2], good[1])), True)
        self.assertIs(settled_holds(ONCE, ("unlike", good[1], good[1])), False)
        self.assertIs(settled_holds(ONCE, ("unlike", ((0,), (0, 1, 0), (0,) * 20), ((0,), (0,), (0,)))), False)
        for one in (good[2], ((), (0,), ()), ((1,), (0,), ()), ((0,), [0, 0], ()), ((0,), (0, 0)), [(0,), (0, 0), ()],
                    ((0,), (0, 0), (), ()), ((0,), (2, 0), ()), ((0,), (False, 0), ()), None, ((0,), (0, 1), (1,))):
            self.assertIs(settled_holds(ONCE, ("unlike", one, good[2])), False)
            self.assertIs(settled_holds(ONCE, ("unlike", good[2], one)), False)
        for value in STRANGE + (("unlike", good[1]), ("unlike", good[1], good[2], ()), ["unlike", good[1], good[2]], ONCE):
            self.assertIs(settled_holds(ONCE, value), False)
            self.assertIs(settled_holds(EVEN, value), False)


class KeptTest(Case):

    def test_small_ones(self):
        generator = random.Random(481)
        groups = group_labels()
        sizes = set()
        for _ in range(400):
            label = random_label(generator, 8, generator.choice((2, 3, 8, 8)))
            kept = kept_label(label)
            sizes.add(len(kept.moves))
            self.assertEqual(settled_paper(kept)[0], "group")
            self.assertTrue(hangs(kept, label))
            self.assertLessEqual(len(kept.moves), len(marks_of_texts(label)))
            self.check_numbers(kept)
            for other in groups:
                if len(other.moves[0]) == len(label.moves[0]) and hangs(other, label):
                    self.assertTrue(hangs(other, kept))
            if settled_paper(label)[0] == "group":
                self.assertTrue(hangs(label, kept))
            if len(marks_of_texts(label)) == 2 and len(kept.moves) == 2:
                self.assertTrue(all(row in ((0, 1), (1, 0)) for row in zip(*kept.moves)))
        self.assertLessEqual({1, 2, 3}, sizes)

    def check_numbers(self, kept):
        """The places are numbered as they are reached, and are the marks."""
        order = [0]
        for place in order:
            for to in kept.moves[place]:
                if to not in order:
                    order.append(to)
        self.assertEqual(order, list(range(len(kept.moves))))
        self.assertEqual(kept.marks, tuple(order))

    def test_some(self):
        self.assertEqual(kept_label(Label([(1, 0), (2, 0), (3, 0), (0, 0)], [0, 1, 0, 1])), Label([(0, 0)], [0]))
        self.assertEqual(kept_label(Label([(1,), (2,), (3,), (0,)], [0, 1, 0, 1])), Label([(1,), (0,)], [0, 1]))
        self.assertEqual(kept_label(Label([(1,), (2,), (3,), (0,)], [5, 1, 4, 0])).moves, ((1,), (2,), (3,), (0,)))
        self.assertEqual(kept_label(Label([(1,), (2,), (3,), (0,)], [5, 1, 4, 1])).moves, ((1,), (0,)))
        self.assertEqual(kept_label(EVEN), Label([(1, 0), (0, 1)], [0, 1]))
        self.assertEqual(kept_label(ONCE), Label([(0, 0)], [0]))
        # A place to which no text leads makes nothing one.
        self.assertEqual(kept_label(Label([(1,), (0,), (0,)], [0, 1, 1])).moves, ((1,), (0,)))

    def test_groups_are_kept(self):
        for label in group_labels():
            if len(label.moves) <= 8:
                kept = kept_label(label)
                self.assertEqual(len(kept.moves), len(marks_of_texts(label)))
                self.assertTrue(hangs(label, kept))
