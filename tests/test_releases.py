"""Promises [55] and [56]: what comes over released bases, fewest merges, rings, what is lost."""

import random

from cancelsback.errors import InvalidBases, InvalidText, InvalidTexts, Refused
from cancelsback.merges import merge_texts
from cancelsback.releases import fewest_holds, fewest_paper, lost_text, over_holds, over_paper, ring_holds, ring_paper
from cancelsback.texts import text_word, word_text
from cancelsback.words import join_words, undo_word
from tests.support import Case, STRANGE, folded_reader, random_lot, texts_to

VERSIONS = [(0, 1), (0, 2, 1)]


def merged_costs(versions, bases, most):
    """What comes by merges of texts to a length, with the fewest merges met."""
    costs = {text: 0 for text in versions}
    grown = True
    while grown:
        grown = False
        for base in bases:
            for mine in list(costs):
                for yours in list(costs):
                    came = merge_texts(base, mine, yours)
                    if came is not None and len(came) <= most:
                        cost = 1 + costs[mine] + costs[yours]
                        if costs.get(came, cost + 1) > cost:
                            costs[came] = cost
                            grown = True
    return costs


def row_word(row):
    """The struck word of the first text, the second one undone, and so on."""
    word = ()
    for at, part in enumerate(row):
        word = join_words(word, undo_word(text_word(part)) if at % 2 else text_word(part))
    return word


def random_question(generator, most=3, length=3):
    letters = generator.choice((1, 2, 2, 3))
    versions = random_lot(generator, generator.randint(1, most), length, letters)
    bases = random_lot(generator, generator.randint(0, most), length, letters)
    return versions, bases, letters


def small_questions(seed, many):
    """Questions of which little enough comes to be found by trying."""
    generator = random.Random(seed)
    found = 0
    while found < many:
        versions, bases, letters = random_question(generator)
        costs = merged_costs(versions, bases, 5)
        if len(costs) <= 40:
            found += 1
            yield versions, bases, letters, costs


class OverTest(Case):

    def check_row(self, versions, bases, text, row):
        for at, part in enumerate(row):
            self.assertIn(part, bases if at % 2 else versions)
        self.assertEqual(len(row) % 2, 1)
        self.assertEqual(row_word(row), text_word(text))

    def test_small_ones_by_trying(self):
        words = set()
        for versions, bases, letters, costs in small_questions(55, 150):
            for text in texts_to(3, letters):
                paper = over_paper(versions, bases, text)
                words.add(paper[0])
                self.assertIs(over_holds(versions, bases, text, paper), True)
                if paper[0] == "row":
                    self.check_row(versions, bases, text, paper[1])
                else:
                    self.assertNotIn(text, costs)
                    self.check_bars(versions, bases, text, paper[1])
        self.assertEqual(words, {"row", "bars"})

    def check_bars(self, versions, bases, text, ties):
        """Ties are closed and let the text lead to no version, by sets of fronts."""
        fronts = {version[:cut] for version in versions for cut in range(len(version) + 1)}

        def lead(front, word):
            reached = {front}
            for letter in (None,) + tuple(word):
                if letter is not None:
                    reached = {part + (letter,) for part in reached if part + (letter,) in fronts}
                while any(begin in reached and end not in reached for begin, end in ties):
                    reached |= {end for begin, end in ties if begin in reached}
            return reached

        for base in bases:
            for cut in range(len(base) + 1):
                for front in fronts:
                    if lead(front, base[cut:]) & set(versions):
                        self.assertLessEqual(lead((), base[:cut]), lead(front, ()))
        self.assertFalse(lead((), text) & set(versions))
        self.assertTrue(all(begin != end and begin in fronts and end in fronts for begin, end in ties))

    def test_all_that_is_merged_comes(self):
        for versions, bases, _, costs in small_questions(56, 150):
            for text in costs:
                self.assertEqual(over_paper(versions, bases, text)[0], "row")

    def test_no_bases(self):
        self.assertEqual(over_paper(VERSIONS, (), (0, 1)), ("row", ((0, 1),)))
        self.assertEqual(over_paper(VERSIONS, [], (0, 2, 2, 1)), ("bars", ()))
        self.assertIs(over_holds(VERSIONS, (), (0,), ("bars", ())), True)
        self.assertEqual(over_paper([()], [()], ()), ("row", ((),)))
        self.assertEqual(over_paper([()], [()], (1,)), ("bars", ()))

    def test_rows_are_never_stuck(self):
        generator = random.Random(64)
        merged = 0
        for _ in range(4000):
            versions, bases, _ = random_question(generator)
            row = [generator.choice(versions)]
            while bases and len(row) < 7 and generator.random() < 0.8:
                row = row + [generator.choice(bases), generator.choice(versions)]
            text = word_text(row_word(row))
            if text is None:
                continue
            self.assertEqual(over_paper(versions, bases, text)[0], "row")
            while len(row) > 1:
                clean = [at for at in range(1, len(row), 2) if merge_texts(row[at], row[at - 1], row[at + 1]) is not None]
                self.assertTrue(clean)
                at = generator.choice(clean)
                row[at - 1:at + 2] = [merge_texts(row[at], row[at - 1], row[at + 1])]
                merged += 1
            self.assertEqual(row, [text])
        self.assertGreater(merged, 500)

    def test_all_versions_as_bases(self):
        generator = random.Random(57)
        words = set()
        for _ in range(150):
            versions, _, letters = random_question(generator)
            reads = folded_reader(versions)
            for text in texts_to(4, letters):
                paper = over_paper(versions, versions, text)
                words.add(paper[0])
                self.assertEqual(paper[0] == "row", reads(text))
            made = [text for text in texts_to(3, letters) if reads(text) and text not in versions][:2]
            self.assertIsNone(lost_text(versions, versions + made, versions))
        self.assertEqual(words, {"row", "bars"})

    def test_a_version_that_is_made_changes_nothing(self):
        for versions, bases, letters, costs in small_questions(58, 60):
            for made in [text for text in costs if text not in versions][:2]:
                self.assertIsNone(lost_text(versions + [made], bases, bases))
                for text in texts_to(3, letters):
                    self.assertEqual(over_paper(versions + [made], bases, text)[0], over_paper(versions, bases, text)[0])

    def test_rows_changed(self):
        base = [(0, 1)]
        text = (0, 2, 2, 1)
        row = ((0, 2, 1), (0, 1), (0, 2, 1))
        longer = ((0, 1), (0, 1)) + row
        for value, holds in ((("row", row), True), (("row", longer), True), (("row", row[:1]), False), (("row", row[:2]), False),
                             (("row", ()), False), (("row", list(row)), False), (["row", row], False), (("row",), False),
                             (("row", ([0, 2, 1], (0, 1), (0, 2, 1))), False), (("row", row, row), False),
                             (("row", ((0, 2, True), (0, 1), (0, 2, 1))), False), (("row", None), False),
                             (("row", ((0, 2, 1), (0, 2, 1), (0, 2, 1))), False), (("bars", ()), False),
                             (("row", ((0, 2, 2, 1),)), False), (("bars", (((0,), (0, 2)),)), False)):
            self.assertIs(over_holds(VERSIONS, base, text, value), holds, value)
        for value in STRANGE:
            self.assertIs(over_holds(VERSIONS, base, text, value), False)
        self.assertIs(over_holds(VERSIONS, [()], (0, 1), ("row", ((0, 1),))), True)
        self.assertIs(over_holds(VERSIONS, [()], (0, 1), ("row", ((0, 1), ()))), False)

    def test_bars_changed(self):
        base = [(0, 2, 1)]
        text = (0, 2, 2, 1)
        ties = (((0,), (0, 2)), ((0, 1), (0, 2, 1)))
        more = ties + (((0, 2, 1), (0, 1)),)
        for value, holds in ((("bars", ties), True), (("bars", ties[::-1]), True), (("bars", more), True),
                             (("bars", ties[:1]), False), (("bars", ()), False), (("bars", ties + ties[:1]), False),
                             (("bars", ties + (((0, 2), (0,)),)), False), (("bars", ties + (((0,), (0,)),)), False),
                             (("bars", list(ties)), False), (("bars", ([(0,), (0, 2)], ties[1])), False),
                             (("bars", (((0,), [0, 2]), ties[1])), False), (("bars", ties + (((0,), (5,)),)), False),
                             (("bars", (((False,), (0, 2)), ties[1])), False), (("bars", ties, ties), False),
                             (("bars", ties + (((0,), (0, 2), 1),)), False), (("bars", ties + (None,)), False),
                             (("bar", ties), False)):
            self.assertIs(over_holds(VERSIONS, base, text, value), holds, value)
        self.assertIs(over_holds(VERSIONS, base, (0, 2, 1), ("bars", ties)), False)
        self.assertIs(over_holds(VERSIONS, base, (0, 2), ("bars", ties)), True)

    def test_wrong_values(self):
        functions = (over_paper, fewest_paper, lambda *three: over_holds(*three, None),
                     lambda *three: fewest_holds(*three, None))
        for function in functions:
            for versions in (None, (), [], 3, True, "ab"):
                self.refuses(InvalidTexts, -1, function, versions, None, None)
            for wrong in (None, 1, "a", (100,), (True,), ((),)):
                self.refuses(InvalidTexts, 1, function, [(), wrong, wrong], None, None)
                self.refuses(InvalidBases, 1, function, [()], [(), wrong, wrong], None)
                self.refuses(InvalidText, -1, function, [()], [()], wrong)
            self.refuses(InvalidTexts, 2, function, [(), (1,), [1]], None, None)
            self.refuses(InvalidBases, 2, function, [()], [(), (1,), [1]], None)
            for bases in (None, 3, True, "ab"):
                self.refuses(InvalidBases, -1, function, [()], bases, None)


class FewestTest(Case):

    def test_small_ones_by_trying(self):
        for versions, bases, letters, costs in small_questions(59, 150):
            for text in texts_to(3, letters):
                if over_paper(versions, bases, text)[0] == "bars":
                    self.refuses(Refused, -1, fewest_paper, versions, bases, text)
                    self.refuses(Refused, -1, fewest_holds, versions, bases, text, None)
                    continue
                paper = fewest_paper(versions, bases, text)
                self.assertIs(fewest_holds(versions, bases, text, paper), True)
                self.assertIs(over_holds(versions, bases, text, ("row", paper[0])), True)
                if text in costs:
                    self.assertLessEqual(len(paper[0]) // 2, costs[text])

    def test_fewest_merges_of_finite_ones(self):
        tried = 0
        for versions, bases, _, _ in small_questions(60, 150):
            if ring_paper(versions, bases)[0] == "finite":
                costs = merged_costs(versions, bases, 40)
                for text in costs:
                    tried += 1
                    self.assertEqual(len(fewest_paper(versions, bases, text)[0]) // 2, costs[text])
        self.assertGreater(tried, 100)

    def test_papers_changed(self):
        base = [(0, 1)]
        text = (0, 2, 2, 1)
        row = ((0, 2, 1), (0, 1), (0, 2, 1))
        weights = (((0, 2), (0,), 1), ((0, 2, 1), (0, 1), 1))
        longer = ((0, 1), (0, 1)) + row
        heavy = (((0, 2), (0,), 2), ((0, 2, 1), (0, 1), 1))
        light = (((0, 2), (0,), 0), ((0, 2, 1), (0, 1), 1))
        more = weights + (((0,), (0, 2), 10 ** 30), ((0, 1), (0, 2, 1), 10 ** 30))
        for value, holds in (((row, weights), True), ((row, weights[::-1]), True), ((row, more), True), ((row, more[:3]), False),
                             ((longer, weights), False), ((row, heavy), False), ((longer, heavy), False),
                             ((((0, 1), (0, 1), (0, 2, 1)), weights), False), ((row, light), False),
                             ((row, ()), False), ((row, weights[:1]), False), ((row, weights + weights[:1]), False),
                             ([row, weights], False), ((row, list(weights)), False), ((row,), False),
                             ((row, weights, ()), False), ((row[:1], weights), False), ((row, None), False),
                             ((row, (((0, 2), (0,), True), weights[1])), False), ((row, (((0, 2), (0,), -1), weights[1])), False),
                             ((row, weights + (((0,), (0,), 0),)), False), ((row, weights + (((0,), (0, 2)),)), False),
                             ((row, (((0, 2), [0], 1), weights[1])), False)):
            self.assertIs(fewest_holds(VERSIONS, base, text, value), holds, value)
        for value in STRANGE:
            self.assertIs(fewest_holds(VERSIONS, base, text, value), False)

    def test_a_told_version_needs_no_merge(self):
        self.assertEqual(fewest_paper(VERSIONS, [(0, 1)], (0, 1))[0], ((0, 1),))
        self.assertEqual(fewest_paper([(5,)], [], (5,)), (((5,),), ()))

    def test_greatest_questions(self):
        generator = random.Random(61)
        longest = 0
        for _ in range(60):
            versions, bases, letters = random_question(generator, 5, 4)
            text = tuple(generator.randrange(letters) for _ in range(generator.randint(0, 10)))
            paper = over_paper(versions, bases, text)
            self.assertIs(over_holds(versions, bases, text, paper), True)
            if paper[0] == "row":
                fewest = fewest_paper(versions, bases, text)
                longest = max(longest, len(fewest[0]))
                self.assertIs(fewest_holds(versions, bases, text, fewest), True)
        self.assertGreater(longest, 3)
        versions = [(1, 2, 1), (2,), (2, 0, 0, 0), (0, 2, 2, 2), (0, 2, 1, 0), (0, 0, 2, 2)]
        bases = [(1, 2, 0), (0, 2), (2, 0, 2, 0), (), (0, 2, 0, 2)]
        text = (1, 0, 2, 1, 0, 2, 2, 1, 0, 1)
        paper = over_paper(versions, bases, text)
        self.assertIs(over_holds(versions, bases, text, paper), True)


class RingsTest(Case):

    def test_small_ones_by_trying(self):
        words = set()
        for versions, bases, _, _ in small_questions(62, 200):
            paper = ring_paper(versions, bases)
            words.add(paper[0])
            self.assertIs(ring_holds(versions, bases, paper), True)
            if paper[0] == "finite":
                self.assertEqual(len(merged_costs(versions, bases, 40)), paper[1])
            else:
                _, head, ring, tail = paper
                self.assertNotEqual(ring, ())
                for times in range(4):
                    self.assertEqual(over_paper(versions, bases, head + ring * times + tail)[0], "row")
        self.assertEqual(words, {"finite", "endless"})

    def test_papers_changed(self):
        finite = ([(0,), (0, 0)], [(0, 0)])
        for value, holds in ((("finite", 3), True), (("finite", 2), False), (("finite", True), False), (["finite", 3], False),
                             (("finite",), False), (("finite", 3, 3), False), (("endless", (), (0,), ()), False),
                             (("finite", "3"), False), (("many", 3), False)):
            self.assertIs(ring_holds(*finite, value), holds, value)
        endless = ([(0, 1), (0, 2, 1)], [(0, 1)])
        for value, holds in ((("endless", (0,), (2,), (1,)), True), (("endless", (0, 2), (2, 2), (2, 1)), True),
                             (("endless", (0,), (), (1,)), False), (("endless", (), (2,), (1,)), False),
                             (("endless", [0], (2,), (1,)), False), (("endless", (0,), (2,)), False),
                             (["endless", (0,), (2,), (1,)], False), (("finite", 2), False), (("endless", (0,), (1,), ()), False),
                             (("endless", (0,), None, (1,)), False), (("endless", (0, 1), (3,), ()), False),
                             (("ring", (0,), (2,), (1,)), False)):
            self.assertIs(ring_holds(*endless, value), holds, value)
        one = ([(1,)], [])
        self.assertEqual(ring_paper(*one), ("finite", 1))
        self.assertIs(ring_holds(*one, ("finite", True)), False)
        for value in STRANGE:
            self.assertIs(ring_holds(*endless, value), False)

    def test_a_ring_that_works_only_sometimes(self):
        versions = [(1,), (1, 0, 0, 1)]
        bases = [(1,)]
        paper = ring_paper(versions, bases)
        self.assertEqual(paper[0], "endless")
        self.assertIs(ring_holds(versions, bases, ("endless", (1,), (0,), (1,))), False)
        self.assertIs(ring_holds(versions, bases, ("endless", (1,), (0, 0, 1), ())), True)

    def test_lost_texts(self):
        self.assertEqual(lost_text([(0,), (0, 0)], [(0,), (0, 0)], []), ())
        self.assertEqual(lost_text([(0,), (0, 0)], [(0,)], []), (0, 0, 0))
        self.assertIsNone(lost_text(VERSIONS, [], [(0, 1)]))
        self.assertIsNone(lost_text(VERSIONS, VERSIONS, VERSIONS))
        tried = 0
        for versions, bases, letters, costs in small_questions(63, 120):
            for at in range(len(bases)):
                fewer = bases[:at] + bases[at + 1:]
                lost = lost_text(versions, bases, fewer)
                found = [text for text in texts_to(3, letters) if over_paper(versions, bases, text)[0] == "row"
                         and over_paper(versions, fewer, text)[0] == "bars"]
                if found:
                    tried += 1
                    self.assertEqual(lost, found[0])
                elif lost is not None:
                    self.assertGreater(len(lost), 3)
                    self.assertEqual(over_paper(versions, bases, lost)[0], "row")
                    self.assertEqual(over_paper(versions, fewer, lost)[0], "bars")
                self.assertIsNone(lost_text(versions, fewer, bases))
        self.assertGreater(tried, 10)

    def test_wrong_values(self):
        for function in (ring_paper, lambda versions, bases: ring_holds(versions, bases, None),
                         lambda versions, bases: lost_text(versions, bases, None)):
            for versions in (None, (), 3, "ab"):
                self.refuses(InvalidTexts, -1, function, versions, None)
            self.refuses(InvalidTexts, 1, function, [(), ()], None)
            self.refuses(InvalidBases, -1, function, [()], None)
            self.refuses(InvalidBases, 1, function, [()], [(), (True,), None])
        self.refuses(InvalidBases, -1, lost_text, [()], [()], None)
        self.refuses(InvalidBases, 2, lost_text, [()], [()], [(), (1,), (1,)])
