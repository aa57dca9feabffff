"""Promises [45] and [46]: how often letters stand, sums and rests, barring points."""

import random
from itertools import permutations, product
from math import gcd

from cancelsback.coming import can_come, nth_coming
from cancelsback.errors import InvalidSize, InvalidText, InvalidTexts, MergeError
from cancelsback.kept import barring_points, bars_text, counts_hold, counts_paper, sum_rest
from cancelsback.webs import told_web
from tests.support import Case, STRANGE, random_lot, texts_to

TOLD = [(0, 0), (1, 1)]


def counts(text, letters):
    return [text.count(letter) for letter in range(letters)]


def letters_of(texts):
    return max([-1] + [letter for text in texts for letter in text]) + 1


def random_question(generator, most=4, length=4):
    letters = generator.choice((1, 2, 2, 3, 4))
    texts = random_lot(generator, generator.randint(1, most), length, letters)
    return texts, tuple(generator.randrange(letters) for _ in range(generator.randint(0, length + 2)))


def first_coming(texts, most):
    every = []
    for number in range(most):
        try:
            every.append(nth_coming(texts, number))
        except MergeError:
            break
    return every


def led(rows, place, text):
    for letter in text:
        place = rows[letter][place]
    return place


class CountsTest(Case):

    def check_paper(self, texts, text, paper):
        letters = letters_of(texts + [text])
        self.assertIs(counts_hold(texts, text, paper), True)
        if paper[0] == "counts":
            self.assertEqual(len(paper[1]), len(texts) - 1)
            for letter in range(letters):
                more = [told.count(letter) - texts[0].count(letter) for told in texts[1:]]
                total = texts[0].count(letter) + sum(times * part for times, part in zip(paper[1], more))
                self.assertEqual(total, text.count(letter))
        else:
            _, weights, modulus = paper
            self.assertEqual(len(weights), letters)
            sums = [sum(weights[letter] for letter in told) for told in texts + [text]]
            self.assertNotEqual(modulus, 1)
            if modulus:
                sums = [total % modulus for total in sums]
            self.assertEqual(len(set(sums[:-1])), 1)
            self.assertNotEqual(sums[-1], sums[0])

    def test_small_ones(self):
        generator = random.Random(451)
        words = set()
        for _ in range(1500):
            texts, text = random_question(generator)
            paper = counts_paper(texts, text)
            words.add((paper[0], paper[-1] == 0))
            self.check_paper(texts, text, paper)
            if can_come(texts, text):
                self.assertEqual(paper[0], "counts")
        self.assertLessEqual({("counts", False), ("rest", True), ("rest", False)}, words)

    def test_just_one_can_be_told(self):
        generator = random.Random(452)
        for _ in range(200):
            texts, text = random_question(generator, 3, 3)
            letters = letters_of(texts + [text])
            counted = any(counts_hold(texts, text, ("counts", times))
                          for times in product(range(-3, 4), repeat=len(texts) - 1))
            rest = any(counts_hold(texts, text, ("rest", weights, modulus))
                       for weights in product(range(3), repeat=min(letters, 3)) for modulus in (0, 2, 3, 4))
            self.assertFalse(counted and rest)

    def test_some(self):
        self.assertEqual(counts_paper([()], ()), ("counts", ()))
        self.assertEqual(counts_paper([(3,)], (3,)), ("counts", ()))
        self.assertEqual(counts_paper([(0,), (1, 0)], (0, 1)), ("counts", (1,)))
        self.check_paper([()], (2,), counts_paper([()], (2,)))
        self.check_paper(TOLD, (0, 1), counts_paper(TOLD, (0, 1)))
        # All told versions have two letters, which no modulus but 0 tells from every other number.
        self.assertEqual(counts_paper([(0, 0), (0, 1), (1, 1)], (0,))[0], "rest")
        self.assertEqual(counts_paper([(0, 0), (0, 1), (1, 1)], (0, 0, 0))[2], 0)

    def test_greatest(self):
        generator = random.Random(453)
        for letters in (2, 3, 5, 100):
            for _ in range(10):
                texts = [tuple(generator.randrange(letters) for _ in range(generator.randint(1, 30))) for _ in range(5)]
                texts = sorted(set(texts))
                text = tuple(generator.randrange(letters) for _ in range(100))
                self.check_paper(texts, text, counts_paper(texts, text))
                made = texts[0] + texts[-1] + texts[-1]
                self.check_paper(texts, made, counts_paper(texts, made))

    def test_counts_papers_changed(self):
        texts, text = [(0,), (1, 0), (0, 0)], (1, 1, 0)
        self.assertIs(counts_hold(texts, text, ("counts", (2, 0))), True)
        for value in (("counts", (2, 1)), ("counts", (1, 0)), ("counts", (2,)), ("counts", (2, 0, 0)), ("counts", [2, 0]),
                      ["counts", (2, 0)], ("counts", (2, False)), ("counts", (2, 0), 0), ("count", (2, 0)), ("counts", 2)):
            self.assertIs(counts_hold(texts, text, value), False)

    def test_rest_papers_changed(self):
        self.assertIs(counts_hold(TOLD, (0, 1), ("rest", (1, 0), 2)), True)
        self.assertIs(counts_hold(TOLD, (0, 1), ("rest", (10 ** 22 + 1, -10 ** 22), 2)), True)
        self.assertIs(counts_hold(TOLD, (0,), ("rest", (1, 1), 0)), True)
        self.assertIs(counts_hold(TOLD, (0,), ("rest", (1, 1), 10 ** 22)), True)
        for value in (("rest", (1, 0), 0), ("rest", (1, 0), 3), ("rest", (1, 1), 2), ("rest", (1, 0), 1), ("rest", (1, 0), -2),
                      ("rest", [1, 0], 2), ("rest", (1, False), 2), ("rest", (1,), 2), ("rest", (1, 0, 0), 2),
                      ["rest", (1, 0), 2], ("rest", (1, 0)), ("rest", (1, 0), True), ("rest", (1, 0), None), ("counts", (1, 0), 2)):
            self.assertIs(counts_hold(TOLD, (0, 1), value), False)
        # The greatest letter of any text passed tells how many weights there are.
        self.assertIs(counts_hold(TOLD, (0, 3), ("rest", (1, 0), 2)), False)
        self.assertIs(counts_hold(TOLD, (0, 3), ("rest", (1, 0, 0, 0), 2)), True)
        for value in STRANGE:
            self.assertIs(counts_hold(TOLD, (0, 1), value), False)

    def test_wrong_inputs(self):
        for function, more in ((counts_paper, 1), (counts_hold, 2), (sum_rest, 1), (barring_points, 1), (bars_text, 2)):
            for texts in (None, (), 3, "a"):
                self.refuses(InvalidTexts, -1, function, texts, *[None] * more)
            for wrong in STRANGE + ((2,),):
                if wrong != "":
                    self.refuses(InvalidTexts, 1, function, [(2,), wrong, None], *[None] * more)
        for text in STRANGE:
            self.refuses(InvalidText, -1, counts_paper, TOLD, text)
            self.refuses(InvalidText, -1, barring_points, TOLD, text)
            self.refuses(InvalidText, -1, counts_hold, TOLD, text, None)
            self.refuses(InvalidText, -1, bars_text, TOLD, text, None)


class SumsTest(Case):

    def test_small_ones(self):
        generator = random.Random(454)
        moduli = set()
        for _ in range(300):
            texts, _ = random_question(generator)
            weights = [generator.randint(-6, 6) for _ in range(letters_of(texts))]
            modulus, rest = sum_rest(texts, weights)
            sums = [sum(weights[letter] for letter in text) for text in texts]
            moduli.add(min(modulus, 2))
            if modulus == 0:
                self.assertEqual(set(sums), {rest})
            else:
                self.assertEqual({total % modulus for total in sums}, {rest})
            # A modulus gives all that comes one rest exactly if it divides the greatest one.
            every = [sum(weights[letter] for letter in text) for text in first_coming(texts, 20)]
            for other in range(1, 13):
                one = len({total % other for total in every + sums}) == 1
                self.assertEqual(one, gcd(modulus, other) == other)
        self.assertEqual(moduli, {0, 1, 2})

    def test_some(self):
        self.assertEqual(sum_rest(TOLD, (1, 3)), (4, 2))
        self.assertEqual(sum_rest(TOLD, [2, 2]), (0, 4))
        self.assertEqual(sum_rest(TOLD, [-2, -2]), (0, -4))
        self.assertEqual(sum_rest(TOLD, [-3, 1]), (8, 2))
        self.assertEqual(sum_rest([(0,), (0, 0)], [-1]), (1, 0))
        self.assertEqual(sum_rest([()], ()), (0, 0))
        self.assertEqual(sum_rest([(), (0,)], (10 ** 22,)), (10 ** 22, 0))

    def test_wrong_weights(self):
        for weights in (None, 3, "ab", (), (1,), (1, 2, 3), (1, None), (1, True), (1, "2"), (1, (2,)), {0: 1, 1: 2}):
            self.refuses(InvalidSize, "weights", sum_rest, TOLD, weights)


class PointsTest(Case):

    def test_small_ones(self):
        generator = random.Random(461)
        found = set()
        for _ in range(1500):
            texts, text = random_question(generator)
            value = barring_points(texts, text)
            found.add(value is None)
            self.assertEqual(value is None, can_come(texts, text))
            if value is not None:
                rows, place = value
                self.assertEqual(len(rows), letters_of(texts + [text]))
                many = len(rows[0])
                self.assertLessEqual(many, told_web(texts).places + len(text))
                self.assertTrue(all(sorted(row) == list(range(many)) for row in rows))
                ends = {led(rows, place, told) for told in texts}
                self.assertEqual(len(ends), 1)
                self.assertNotIn(led(rows, place, text), ends)
                self.assertIs(bars_text(texts, text, value), True)
        self.assertEqual(found, {True, False})

    def test_nothing_bars_what_can_come(self):
        generator = random.Random(462)
        perms = list(permutations(range(3)))
        for _ in range(60):
            texts = random_lot(generator, 3, 3, 2)
            texts = [text for text in texts if 1 in text] or [(1,)]
            for text in first_coming(texts, 8):
                for rows in product(perms, repeat=2):
                    self.assertIs(bars_text(texts, text, (rows, generator.randrange(3))), False)

    def test_groups_alone_are_not_enough(self):
        """What leads one place of these to itself leads each one so: none of them bars 0 1, which cannot come."""
        perms = list(permutations(range(3)))
        places = {perm: at for at, perm in enumerate(perms)}
        for pair in product(perms, repeat=2):
            rows = tuple(tuple(places[tuple(perm[at] for at in move)] for perm in perms) for move in pair)
            self.assertIs(bars_text([(0,), (1, 0)], (0, 1), (rows, 0)), False)
        self.assertIs(can_come([(0,), (1, 0)], (0, 1)), False)

    def test_some(self):
        self.assertIsNone(barring_points([()], ()))
        self.assertEqual(barring_points([()], (0,)), (((1, 0),), 0))
        self.assertIsNone(barring_points([(0,), (1, 0)], (1, 1, 0)))

    def test_values_changed(self):
        texts, text = [(0,), (1, 0)], (0, 1)
        good = (((1, 0, 2), (0, 2, 1)), 0)
        self.assertIs(bars_text(texts, text, good), True)
        self.assertIs(bars_text(texts, text, (((1, 0, 2, 3), (0, 2, 3, 1)), 0)), True)
        for value in ((good[0], 1), (good[0], 3), (good[0], -1), (good[0], False), (good[0], None), list(good), good + (0,),
                      (list(good[0]), 0), (((1, 0, 2), [0, 2, 1]), 0), (([1, 0, 2], (0, 2, 1)), 0), (((1, 0, 2),), 0),
                      (((1, 0, 2), (0, 2, 1), (0, 1, 2)), 0), (((1, 0, 2), (0, 2)), 0), (((1, 0, 2), (0, 2, 2)), 0),
                      (((1, 0, 2), (0, 2, 3)), 0), (((1, False, 2), (0, 2, 1)), 0), (((), ()), 0), ((), 0), (None, 0)):
            self.assertIs(bars_text(texts, text, value), False)
        for value in STRANGE + (((None, None), 0), ((good[0], good[0]), 0)):
            self.assertIs(bars_text(texts, text, value), False)
        self.assertIs(bars_text([()], (), ((), 0)), False)
        self.assertIs(bars_text([()], (), ((), ())), False)

    def test_greatest(self):
        generator = random.Random(463)
        for letters in (1, 2, 9, 100):
            texts = random_lot(generator, 5, 30, letters)
            text = tuple(generator.randrange(letters) for _ in range(100))
            value = barring_points(texts, text)
            if value is not None:
                self.assertIs(bars_text(texts, text, value), True)
        rows = tuple(tuple((place + step) % 60 for place in range(60)) for step in (1, 7))
        self.assertIs(bars_text([(0,) * 7, (1,)], (1,) * 100, (rows, 59)), True)
        self.assertIs(bars_text([(0,) * 7, (1,)], (1,) * 61, (rows, 59)), False)
