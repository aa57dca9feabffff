"""Promises [41] to [44]: plans, rows, what is alike, rounds, margins and elders."""

import random
from itertools import combinations, product

from cancelsback.errors import InvalidPlan, InvalidRow, InvalidSize, InvalidVersions, MergeError, Refused
from cancelsback.histories import elder_fault, elder_plan, margin_pairs, need_plan, plan_counts, plan_rows, plan_texts
from cancelsback.histories import plans_paper, rounds_hold, rounds_paper
from cancelsback.merges import merge_texts
from cancelsback.releases import over_paper
from cancelsback.texts import text_word, word_text
from cancelsback.words import join_words, undo_word
from tests.support import Case, STRANGE, texts_to


def random_plan(generator, many, merges):
    """A plan that tells all versions first."""
    plan = [("version", number) for number in range(many)]
    for _ in range(merges):
        plan.append(("merge",) + tuple(generator.randrange(len(plan)) for _ in range(3)))
    return plan


def product_of(texts, row):
    """The struck word of a row of versions."""
    word = ()
    for at, number in enumerate(row):
        part = text_word(texts[number])
        word = join_words(word, undo_word(part) if at % 2 else part)
    return word


def texts_or_none(texts, plan):
    try:
        return plan_texts(texts, plan)
    except Refused:
        return None


class PlansTest(Case):

    def test_need_plan(self):
        self.assertEqual(need_plan(1, [["version", 0]]), (("version", 0),))
        plan = [("version", 11), ["merge", 0, 0, 0]]
        self.assertEqual(need_plan(12, plan), (("version", 11), ("merge", 0, 0, 0)))
        longest = [("version", 0)] * 20
        self.assertEqual(need_plan(1, longest), tuple(longest))

    def test_wrong_plans(self):
        for function in (need_plan, plan_rows, plan_counts, elder_fault, lambda many, plan: plans_paper(many, plan, plan)):
            for many in (0, 13, -1, True, None, "2", (2,)):
                self.refuses(InvalidSize, "many", function, many, None)
            for plan in (None, (), [], 3, "version", [("version", 0)] * 21, [None] * 21):
                self.refuses(InvalidPlan, -1, function, 2, plan)
            for step in (None, 0, "version", (), ("version",), ("version", 2), ("version", -1), ("version", True),
                         ("merge", 0, 0), ("merge", 0, 0, 1), ("merge", 0, True, 0), ("told", ()), ("version", 0, 0),
                         ("told", 0), (None, 0), ("told", 0, 0, 0)):
                self.refuses(InvalidPlan, 1, function, 2, [("version", 1), step, step])
            self.refuses(InvalidPlan, 0, function, 2, [("merge", 0, 0, 0), None])
        for step in STRANGE:
            self.refuses(InvalidPlan, 1, need_plan, 2, [("version", 1), step])

    def test_wrong_other_plan(self):
        good = [("version", 0)]
        self.refuses(InvalidPlan, -1, plans_paper, 1, good, ())
        self.refuses(InvalidPlan, 1, plans_paper, 1, good, good + [None])
        self.refuses(InvalidPlan, 0, plans_paper, 1, [None], good + [None])

    def test_rows_and_counts(self):
        plan = [("version", 0), ("version", 1), ("version", 2), ("merge", 1, 0, 2), ("merge", 3, 2, 0), ("merge", 3, 3, 3)]
        self.assertEqual(plan_rows(3, plan), ((0,), (1,), (2,), (0, 1, 2), (1,), (0, 1, 2)))
        self.assertEqual(plan_counts(3, plan)[3:], ((1, -1, 1), (0, 1, 0), (1, -1, 1)))
        plan = plan[:4] + [("merge", 3, 0, 2)]
        self.assertEqual(plan_rows(3, plan)[4], (0, 2, 1, 0, 2))

    def test_texts_are_the_products_of_rows(self):
        generator = random.Random(41)
        texts = texts_to(3, 2)
        gone = 0
        for _ in range(3000):
            many = generator.randint(1, 4)
            plan = random_plan(generator, many, generator.randint(0, 4))
            versions = [generator.choice(texts) for _ in range(many)]
            came = texts_or_none(versions, plan)
            rows = plan_rows(many, plan)
            for row, counts in zip(rows, plan_counts(many, plan)):
                self.assertTrue(all(one != other for one, other in zip(row, row[1:])))
                self.assertEqual(counts, tuple(row[::2].count(number) - row[1::2].count(number)
                                               for number in range(many)))
                self.assertEqual(sum(counts), 1)
            if came is not None:
                gone += 1
                self.assertEqual(came, tuple(word_text(product_of(versions, row)) for row in rows))
        self.assertGreater(gone, 500)

    def test_plan_texts(self):
        plan = [("version", 0), ("version", 1), ("merge", 0, 1, 1), ("merge", 1, 0, 0)]
        self.assertEqual(plan_texts([(1,), (1, 1)], plan), ((1,), (1, 1), (1, 1, 1), ()))
        self.assertEqual(plan_texts([[1], [1]], plan[:3]), ((1,), (1,), (1,)))
        self.refuses(Refused, 3, plan_texts, [(1,), (1, 2, 1)], plan + [("merge", 1, 0, 0)])
        self.refuses(InvalidPlan, 2, plan_texts, [(1,), (1, 2, 1)], plan[:2] + [("version", 2)])
        for texts in (None, (), [()] * 13, [None] * 13, "ab"):
            self.refuses(InvalidVersions, -1, plan_texts, texts, None)
        self.refuses(InvalidVersions, 1, plan_texts, [(), (True,), None], None)
        self.assertEqual(plan_texts([()] * 12, [("version", 11)]), ((),))


class AlikeTest(Case):

    def check_paper(self, many, plan, other):
        """The paper is one of those that may be told; its first word."""
        paper = plans_paper(many, plan, other)
        rows = plan_rows(many, plan)[-1], plan_rows(many, other)[-1]
        counts = plan_counts(many, plan)[-1], plan_counts(many, other)[-1]
        if rows[0] == rows[1]:
            self.assertEqual(paper, ("alike",))
        elif counts[0] == counts[1] and not self.are_parted(plan, other):
            self.assertEqual(paper, ("open",))
        else:
            self.assertEqual((paper[0], len(paper), len(paper[1])), ("apart", 2, many))
            self.assertNotEqual(plan_texts(paper[1], plan)[-1], plan_texts(paper[1], other)[-1])
        return paper[0]

    def are_parted(self, plan, other):
        bases, sides = set(), set()
        for steps in (plan, other):
            for step in steps:
                if step[0] == "merge":
                    if steps[step[1]][0] == "merge":
                        return False
                    bases.add(steps[step[1]][1])
                    sides |= {steps[place][1] for place in step[2:] if steps[place][0] == "version"}
            if steps[-1][0] == "version":
                sides.add(steps[-1][1])
        return not bases & sides

    def test_random_plans(self):
        generator = random.Random(42)
        words = []
        for _ in range(4000):
            many = generator.randint(1, 6)
            merges = generator.randint(0, 4)
            words.append(self.check_paper(many, random_plan(generator, many, merges), random_plan(generator, many, merges)))
        self.assertEqual(set(words), {"alike", "apart", "open"})

    def parted_plan(self, generator, many, bases, merges):
        plan = [("version", number) for number in range(many)]
        for _ in range(merges):
            sides = [at for at in range(len(plan)) if at >= bases]
            plan.append(("merge", generator.randrange(bases), generator.choice(sides), generator.choice(sides)))
        return plan

    def test_parted_plans_with_like_counts(self):
        generator = random.Random(43)
        found = 0
        for _ in range(3000):
            bases, many = generator.randint(1, 3), 6
            plans = [self.parted_plan(generator, many, bases, 4) for _ in range(2)]
            if plan_counts(many, plans[0])[-1] == plan_counts(many, plans[1])[-1]:
                found += self.check_paper(many, *plans) == "apart"
        self.assertGreater(found, 20)

    def test_the_order_of_two_sides(self):
        steps = [("version", 0), ("version", 1), ("version", 2)]
        one, other = steps + [("merge", 0, 1, 2)], steps + [("merge", 0, 2, 1)]
        self.assertEqual(self.check_paper(3, one, other), "apart")
        self.assertEqual(self.check_paper(3, one, one), "alike")
        both = steps + [("merge", 0, 1, 2), ("merge", 1, 3, 2), ("merge", 2, 4, 0)]
        self.check_paper(3, both, other)

    def test_plans_that_are_not_parted(self):
        steps = [("version", 0), ("version", 1)]
        one = steps + [("merge", 0, 1, 1), ("merge", 1, 2, 2), ("merge", 0, 3, 1), ("merge", 1, 4, 0)]
        rows = plan_rows(2, one)
        other = steps + [("merge", 0, 1, 1), ("merge", 0, 2, 1), ("merge", 1, 3, 0), ("merge", 1, 4, 0)]
        self.assertNotEqual(rows[-1], plan_rows(2, other)[-1])
        self.assertEqual(plans_paper(2, one, other)[0],
                         "open" if plan_counts(2, one)[-1] == plan_counts(2, other)[-1] else "apart")

    def test_greatest_plans(self):
        generator = random.Random(44)
        for _ in range(300):
            plans = [random_plan(generator, 6, 8) for _ in range(2)]
            if max(len(row) for plan in plans for row in plan_rows(6, plan)) <= 99:
                self.check_paper(6, *plans)
        wide = [("version", number) for number in range(12)]
        self.check_paper(12, wide, wide[::-1])

    def test_like_counts_and_a_merge_that_goes(self):
        generator = random.Random(47)
        found = 0
        while found < 200:
            many = generator.randint(2, 4)
            plans = [random_plan(generator, many, 4) for _ in range(2)]
            if plan_counts(many, plans[0])[-1] != plan_counts(many, plans[1])[-1]:
                continue
            for _ in range(10):
                texts = [(0,) * generator.randint(0, 3) + (1,) * generator.randint(0, 3) for _ in range(many)]
                ends = [texts_or_none(texts, plan) for plan in plans]
                if None not in ends:
                    one, other = ends[0][-1], ends[1][-1]
                    self.assertEqual(len(one), len(other))
                    self.assertEqual(merge_texts(other, one, one) is not None, one == other)
                    found += 1

    def test_alike_by_force(self):
        for one, other in product(texts_to(3, 2), repeat=2):
            if len(one) == len(other) and one != other:
                self.assertIsNone(merge_texts(one, other, other))


class RoundsTest(Case):

    def test_small_lots(self):
        words = []
        texts = texts_to(3, 2)
        for many in (2, 3):
            for versions in product(texts if many == 2 else texts_to(2, 2) + [(0, 0, 0), (0, 1, 0)], repeat=many):
                words.append(self.check_rounds(versions))
        self.assertEqual(set(words), {"clash", "block"})

    def test_lots_of_blocks(self):
        for block in ((0,), (0, 1), (0, 0, 1)):
            for front, back in product(((), (2,), (1, 0), (1,)), repeat=2):
                for times in ((2, 3), (4, 6), (2, 3, 3), (4, 5, 6, 4), (3, 5), (1, 2), (5, 5), (6, 7, 8, 9)):
                    self.check_rounds([front + block * number + back for number in times])

    def check_rounds(self, versions):
        """The paper is the one that the promise tells; its first word."""
        paper = rounds_paper(versions)
        self.assertIs(rounds_hold(versions, paper), True)
        clashes = [row for length in (3, 5) for row in product(range(len(versions)), repeat=length)
                   if all(one != other for one, other in zip(row, row[1:]))
                   and word_text(product_of(versions, row)) is None]
        if clashes:
            self.assertEqual(paper, ("clash", clashes[0]))
            for row in clashes[-3:]:
                self.assertIs(rounds_hold(versions, ("clash", row)), True)
            return "clash"
        word, front, block, back, times = paper
        self.assertEqual(word, "block")
        self.assertEqual([front + block * number + back for number in times], [tuple(text) for text in versions])
        if len(set(versions)) == 1:
            self.assertEqual(paper, ("block", tuple(versions[0]), (), (), (0,) * len(versions)))
        else:
            self.assertGreaterEqual(3 * min(times), 2 * max(times))
            self.assertNotEqual(front[-1:], block[-1:])
            self.assertNotEqual(back[:len(block)], block)
            self.assertFalse(any(block == block[:cut] * (len(block) // cut) for cut in range(1, len(block))
                                 if len(block) % cut == 0))
        return "block"

    def test_exactly_the_blocks_have_all_texts(self):
        for low, high in product(range(7), repeat=2):
            versions = [(1,) + (0,) * low + (1,), (1,) + (0,) * high + (1,)]
            expected = "block" if low == high or 3 * min(low, high) >= 2 * max(low, high) else "clash"
            self.assertEqual(rounds_paper(versions)[0], expected)

    def test_rows_of_three_alone_do_not_tell(self):
        self.assertEqual(len(rounds_paper([(1, 0, 1), (1, 0, 0, 1)])[1]), 5)

    def test_papers_changed(self):
        versions = [(0, 1, 1, 2), (0, 1, 1, 1, 2)]
        for value in (("block", (0,), (1,), (2,), (2, 4)), ("block", (0,), (1,), (2,), [2, 3]), ["block", (0,), (1,), (2,), (2, 3)],
                      ("block", [0], (1,), (2,), (2, 3)), ("block", (0, 1), (1,), (2,), (1, 2)), ("clash", (0, 1, 0)),
                      ("block", (0,), (True,), (2,), (2, 3)), ("block", (0,), (1,), (2,)), ("clash",), ("clash", None)):
            self.assertIs(rounds_hold(versions, value), False, value)
        versions = [(0,), (1,)]
        self.assertEqual(rounds_paper(versions), ("clash", (0, 1, 0)))
        for value, holds in ((("clash", (1, 0, 1)), True), (("clash", (1, 0, 1, 0, 1)), True), (("clash", [0, 1, 0]), False),
                             (("clash", (0, 0, 1)), False), (("clash", (0, True, 0)), False), (("clash", (0, 2, 0)), False),
                             (("clash", (0, 1, 0, 1, 0, 1, 0)), False), (("clash", (0,)), False), (["clash", (0, 1, 0)], False),
                             (("clash", (0, 1, 0), 0), False), (("clash", (-1, 0, 1)), False),
                             (("clash", (0, 0, 0, 1, 0)), False), (("crash", (0, 1, 0)), False)):
            self.assertIs(rounds_hold(versions, value), holds, value)
        for value in STRANGE:
            self.assertIs(rounds_hold(versions, value), False)

    def test_wrong_versions(self):
        for function in (rounds_paper, lambda texts: rounds_hold(texts, None)):
            for texts in (None, (), [()], [()] * 5, 3, "ab", [None]):
                self.refuses(InvalidVersions, -1, function, texts)
            self.refuses(InvalidVersions, 1, function, [(), (100,), None])
            self.refuses(InvalidVersions, 0, function, [(True,), ()])


class MarginsTest(Case):

    def test_against_all_margins(self):
        generator = random.Random(45)
        margins = texts_to(3, 2)
        kinds = []
        for _ in range(150):
            many = generator.randint(1, 3)
            texts = [tuple(generator.randrange(2) for _ in range(generator.randint(0, 3))) for _ in range(many)]
            row = [generator.randrange(many) for _ in range(generator.choice((1, 3, 5)))]
            pairs = margin_pairs(texts, row)
            kinds.append(min(len(pairs), 2))
            self.assertEqual(pairs, tuple(sorted(set(pairs))))
            for front, back in product(margins, repeat=2):
                laid = [front + text + back for text in texts]
                expected = any(front[len(front) - len(one):] == one and len(front) >= len(one) and back[:len(other)] == other
                               for one, other in pairs)
                self.assertEqual(word_text(product_of(laid, row)) is not None, expected)
        self.assertEqual(set(kinds), {0, 1, 2})

    def test_margins_bring_no_other_text(self):
        generator = random.Random(48)
        for _ in range(60):
            texts = list({tuple(generator.randrange(2) for _ in range(generator.randint(0, 3))) for _ in range(3)})
            front, back = [tuple(generator.randrange(2) for _ in range(generator.randint(0, 2))) for _ in range(2)]
            laid = [front + text + back for text in texts]
            for text in texts_to(4, 2):
                self.assertEqual(over_paper(laid, laid, front + text + back)[0], over_paper(texts, texts, text)[0])

    def test_undone_letters(self):
        self.assertEqual(margin_pairs([(1, 2), ()], (1, 0, 1)), (((), (1, 2)), ((1, 2), ()), ((2,), (1,))))
        self.assertEqual(margin_pairs([(1,)], (0, 0, 0)), (((), ()),))
        self.assertEqual(margin_pairs([(), (1, 2), (5,), (3, 4)], (0, 1, 2, 3, 0)), (((1, 2), (3, 4)),))
        self.assertEqual(margin_pairs([(), (1, 2, 3), (5, 6, 7)], (0, 1, 2)), (((1, 2, 3), ()),))
        self.assertEqual(margin_pairs([(), (1, 2, 3), (5, 6, 7)], (2, 1, 0)), (((), (1, 2, 3)),))
        self.assertEqual(margin_pairs([(), ()], [0]), (((), ()),))
        self.assertEqual(margin_pairs([(1,), (2,), (3,)], (0, 1, 2)), ())

    def test_rows_of_seven(self):
        pairs = (((), (1, 2, 1)), ((1,), (1, 2)), ((1, 2, 1), ()), ((2, 1), (1,)))
        self.assertEqual(margin_pairs([(), (1,), (2,)], (0, 1, 0, 2, 0, 1, 0)), pairs)
        self.assertEqual(margin_pairs([(0, 1, 2), (0,), (2,)], (1, 0, 0, 0, 0, 0, 2)), ())
        self.assertEqual(margin_pairs([(3, 0, 4), (3, 1), (2, 4)], (0, 1, 2, 2, 2, 1, 0)), ())

    def test_wrong_rows(self):
        for row in (None, (), (0, 0), 3, "a", (None, None)):
            self.refuses(InvalidRow, -1, margin_pairs, [(), ()], row)
        for number in (2, -1, True, None, "0", (0,)):
            self.refuses(InvalidRow, 1, margin_pairs, [(), ()], (0, number, None))
        self.refuses(InvalidVersions, -1, margin_pairs, [()] * 13, None)
        self.refuses(InvalidVersions, 1, margin_pairs, [(), None], None)


def elders_of(plan):
    """For each step the names of its elders, and its own."""
    names = [step if step[0] == "version" else at for at, step in enumerate(plan)]
    elders = []
    for step in plan:
        if step[0] == "version":
            elders.append(set() if step[1] == 0 else {("version", 0)})
        else:
            elders.append(set().union(*[elders[part] | {names[part]} for part in step[1:]]))
    return names, elders


class EldersTest(Case):

    def test_faults(self):
        generator = random.Random(46)
        found = []
        for _ in range(5000):
            many = generator.randint(1, 3)
            plan = random_plan(generator, many, generator.randint(0, 4))
            plan.insert(generator.randint(0, many), ("version", generator.randrange(many)))
            try:
                need_plan(many, plan)
            except MergeError:
                continue
            names, elders = elders_of(plan)
            faults = [at for at, step in enumerate(plan) if step[0] == "merge"
                      and not all(names[step[1]] == names[side] or names[step[1]] in elders[side] for side in step[2:])]
            self.assertEqual(elder_fault(many, plan), faults[0] if faults else None)
            found.append(bool(faults))
            if not faults:
                self.check_nothing_taken_back(many, plan, names, elders)
        self.assertEqual(set(found), {True, False})

    def check_nothing_taken_back(self, many, plan, names, elders):
        counts = plan_counts(many, plan)
        for at in range(len(plan)):
            for other in range(len(plan)):
                if names[other] in elders[at]:
                    self.assertTrue(all(counts[at][number] >= counts[other][number] for number in range(1, many)))
            self.assertTrue(all(count >= 0 for count in counts[at][1:]))

    def test_steps_that_tell_one_version_are_one(self):
        plan = [("version", 1), ("version", 1), ("version", 0), ("merge", 0, 1, 1)]
        self.assertIsNone(elder_fault(2, plan))
        self.assertIsNone(elder_fault(2, [("version", 0), ("version", 1), ("merge", 0, 1, 0)]))
        self.assertEqual(elder_fault(2, [("version", 0), ("version", 1), ("merge", 1, 0, 1)]), 2)
        twice = [("version", 0), ("merge", 0, 0, 0), ("merge", 0, 0, 0), ("merge", 1, 2, 2)]
        self.assertEqual(elder_fault(1, twice), 3)

    def test_elder_plans(self):
        for many in range(1, 6):
            for bars in combinations(range(9 + many), many):
                counts = [high - low - 1 for low, high in zip((-1,) + bars, bars)]
                plan = elder_plan(counts)
                self.assertIsNone(elder_fault(many + 1, plan))
                self.assertEqual(plan_counts(many + 1, plan)[-1], (1 - sum(counts),) + tuple(counts))
        self.assertEqual(elder_plan([0]), (("version", 0),))

    def test_wrong_counts(self):
        for counts in (None, (), (0,) * 6, (10,), (5, 5), (1, -1), (True,), (None,), 3, "11", (1, "1"), ((1,),), (9, 0, 0, 0, 1)):
            self.refuses(InvalidSize, "counts", elder_plan, counts)
