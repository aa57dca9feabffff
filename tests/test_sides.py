"""Promises [36] to [40]: both sides, block forms, exchanged parts, merges for two texts, orders of hands, yours."""

import random
from itertools import permutations, product

from cancelsback.errors import InvalidIndex, InvalidOrder, InvalidSize, InvalidText, InvalidVersions, Refused
from cancelsback.merges import merge_texts
from cancelsback.sides import (alike_holds, alike_paper, alike_yours, block_form, both_count, both_sides,
                               exchanged_parts, hands_end, nth_both, orders_holds, orders_paper, sides_holds,
                               sides_paper)
from tests.support import Case, STRANGE, as_lists, texts_to

SMALL = texts_to(3, 2)


def is_primitive(block):
    return not any(block[:length] * (len(block) // length) == block for length in range(1, len(block)))


def all_forms(one, other):
    """All forms by the words of the promise."""
    forms = set()
    longest = max(len(one), len(other))
    for front in range(longest + 1):
        for length in range(1, longest - front + 1):
            for source in (one, other):
                block = source[front:front + length]
                if len(block) < length or not is_primitive(block) or (front and source[front - 1] == block[-1]):
                    continue
                for times, others in product(range(longest + 1), repeat=2):
                    back = one[front + length * times:]
                    if one != one[:front] + block * times + back or back[:length] == block:
                        continue
                    if other == one[:front] + block * others + back:
                        forms.add((one[:front], block, back, times, others))
    return forms


def all_partings(one, other):
    """All partings of two texts by the words of the promise, as (weight, lengths)."""
    found = []
    many = len(one)
    for cuts in product(range(many + 1), repeat=4):
        if list(cuts) != sorted(cuts):
            continue
        parts = [one[begin:end] for begin, end in zip((0,) + cuts, cuts + (many,))]
        front, first, middle, second, back = parts
        if other == front + second + middle + first + back:
            lengths = tuple(len(part) for part in parts)
            found.append((len(front) + len(back) + min(len(first), len(second)), lengths, tuple(parts)))
    return found


def all_orders(base, versions):
    """The end of each sequence of unlike places."""
    ends = {}
    for many in range(len(versions) + 1):
        for order in permutations(range(len(versions)), many):
            came = base
            for place in order:
                came = None if came is None else merge_texts(base, versions[place], came)
            ends[order] = came
    return ends


class SidesTest(Case):

    def test_both_sides_and_why_they_are_alike(self):
        kinds = set()
        for base, mine, yours in product(SMALL, repeat=3):
            ahead, behind = merge_texts(base, mine, yours), merge_texts(base, yours, mine)
            self.assertEqual(both_sides(base, mine, yours), (ahead, behind))
            paper = alike_paper(base, mine, yours)
            self.assertIs(alike_holds(base, mine, yours, paper), True)
            kinds.add(paper[0])
            if ahead is None or behind is None:
                self.assertEqual(paper, ("clash", 0 if ahead is None else 1))
            elif mine == base or yours == base:
                self.assertEqual(paper, ("base", 1 if mine == base else 2))
                self.assertEqual(ahead, behind)
            else:
                forms = {form for form in all_forms(base, mine)}
                alike = [form for form in forms if any(yours == form[0] + form[1] * more + form[2] for more in range(9))]
                self.assertEqual(ahead == behind, bool(alike))
                if ahead == behind:
                    front, block, back, times, others = alike[0]
                    more = (len(yours) - len(front + back)) // len(block)
                    self.assertEqual(paper, ("block", front, block, back, (times, others, more)))
                else:
                    self.assertEqual(paper[0], "apart")
                    self.assertEqual(ahead[:paper[1]], behind[:paper[1]])
                    self.assertNotEqual(ahead[paper[1]], behind[paper[1]])
        self.assertEqual(kinds, {"clash", "base", "block", "apart"})

    def test_block_forms(self):
        known = 0
        for one, other in product(texts_to(5, 2), repeat=2):
            forms = all_forms(one, other) if one != other else set()
            self.assertLessEqual(len(forms), 1)
            self.assertEqual(block_form(one, other), forms.pop() if forms else None)
            known += block_form(one, other) is not None
        self.assertGreater(known, 400)
        self.assertEqual(block_form((0, 1, 2, 1, 2, 3), (0, 3)), ((0,), (1, 2), (3,), 2, 0))
        self.assertEqual(block_form([1, 1], [1] * 24), ((), (1,), (), 2, 24))
        self.assertEqual(block_form((1, 2, 1), (1, 2, 1, 2, 1)), ((), (1, 2), (1,), 1, 2))
        self.assertIsNone(block_form((1,), (1,)))
        self.assertIsNone(block_form((1, 2), (3, 2)))

    def test_alike_papers_of_every_kind(self):
        values = [("clash", side) for side in range(3)] + [("base", side) for side in range(4)]
        values += [("apart", place) for place in range(6)]
        blocks = texts_to(2, 2)[1:]
        for front, block, back in product(texts_to(1, 2), blocks, texts_to(1, 2)):
            values += [("block", front, block, back, numbers) for numbers in product(range(3), repeat=3)]
        generator = random.Random(36)
        held = {}
        for _ in range(60):
            base, mine, yours = (generator.choice(SMALL) for _ in range(3))
            sides = merge_texts(base, mine, yours), merge_texts(base, yours, mine)
            for value in values:
                if value[0] == "clash":
                    holds = value[1] < 2 and sides[value[1]] is None
                elif None in sides:
                    holds = False
                elif value[0] == "base":
                    holds = (value[1] == 1 and mine == base) or (value[1] == 2 and yours == base)
                elif value[0] == "apart":
                    holds = sides[0][value[1]:value[1] + 1] != sides[1][value[1]:value[1] + 1]
                else:
                    made = tuple(value[1] + value[2] * times + value[3] for times in value[4])
                    holds = made == (base, mine, yours)
                self.assertIs(alike_holds(base, mine, yours, value), holds)
                held[value[0]] = held.get(value[0], 0) + holds
        self.assertEqual(sorted(key for key in held if held[key]), ["apart", "base", "block", "clash"])

    def test_alike_papers_changed_at_one_place(self):
        told = (0, 1), (0, 1, 1), (0, 1, 1)
        right = ("block", (0,), (1,), (), (1, 2, 2))
        self.assertIs(alike_holds(*told, right), True)
        for wrong in (as_lists(right), list(right), right[:4], right + (0,), ("block", [0], (1,), (), (1, 2, 2)),
                      ("block", (0,), (1,), (), [1, 2, 2]), ("block", (0,), (1,), (), (1, 2)),
                      ("block", (0,), (1,), (), (True, 2, 2)), ("block", (0,), (1,), (), (1, 2, 10 ** 20)),
                      ("block", (0,), (1,), (), (1, 2, -2)), ("block", (0, 1), (), (), (1, 2, 2)),
                      ("block", (0,), (100,), (), (1, 2, 2)), ("base", 1), ("clash", 0), ("apart", 0), ("base", True),
                      ("Block", (0,), (1,), (), (1, 2, 2)), (("block",), (0,), (1,), (), (1, 2, 2))) + STRANGE:
            self.assertIs(alike_holds(*told, wrong), False, wrong)
        self.assertIs(alike_holds((0, 1, 0, 1), (0, 1), (0, 1, 0, 1, 0, 1), ("block", (), (0, 1), (), (2, 1, 3))), True)
        # The block may be a repeated one, and stand where one of them is the base.
        self.assertIs(alike_holds((1,) * 2, (1,) * 4, (1,) * 6, ("block", (), (1, 1), (), (1, 2, 3))), True)
        self.assertIs(alike_holds((1,), (1,), (1, 1), ("block", (), (1,), (), (1, 1, 2))), True)
        self.assertIs(alike_holds((1,), (1,), (1,), ("block", (1,), (2, 2), (), (0, 0, 0))), True)
        self.assertIs(alike_holds((1,), (1,), (1,), ("base", 2)), True)
        self.assertIs(alike_holds((1,), (1,), (1,), ("base", False)), False)
        self.assertIs(alike_holds((1,), (1,), (1,), ("base", True)), False)
        self.assertIs(alike_holds((1,) * 100, (1,) * 101, (1,) * 120, ("block", (), (1,), (), (100, 101, 120))), True)
        self.assertIs(alike_holds((0,), (1,), (2,), ("clash", 1)), True)
        self.assertIs(alike_holds((0,), (1,), (2,), ("clash", True)), False)
        self.assertIs(alike_holds((), (1,), (2,), ("apart", 1)), True)
        self.assertIs(alike_holds((), (1,), (2,), ("apart", True)), False)
        # Blocks that two hands take out of too few: both sides clash.
        self.assertEqual(alike_paper((1, 1, 1), (1,), (1,)), ("clash", 0))
        self.assertIs(alike_holds((1, 1, 1), (1,), (1,), ("block", (), (1,), (), (3, 1, 1))), False)
        self.assertIs(alike_holds((1, 1, 1), (1,), (1,), ("clash", 1)), True)

    def test_two_hands_with_one_version(self):
        for base, version in product(texts_to(4, 2), repeat=2):
            if merge_texts(base, version, version) is not None and version != base:
                front, block, back, times, others = block_form(base, version)
                self.assertEqual(merge_texts(base, version, version), front + block * (2 * others - times) + back)

    def test_exchanged_parts(self):
        generator = random.Random(37)
        pairs = list(product(texts_to(4, 2), repeat=2))
        for _ in range(60):
            one = tuple(generator.randrange(2) for _ in range(7))
            pairs.append((one, tuple(generator.sample(one, 7))))
        whole = 0
        for one, other in pairs:
            found = all_partings(one, other) if len(one) == len(other) else []
            self.assertEqual(exchanged_parts(one, other), min(found)[2] if found else None)
            whole += bool(found)
        self.assertGreater(whole, 100)
        self.assertEqual(exchanged_parts((1, 2), (1, 2)), ((), (), (), (1, 2), ()))
        self.assertEqual(exchanged_parts((), ()), ((), (), (), (), ()))
        self.assertEqual(exchanged_parts([9, 1, 2, 3, 4, 8], [9, 4, 2, 3, 1, 8]), ((9,), (1,), (2, 3), (4,), (8,)))
        self.assertIsNone(exchanged_parts((1, 2), (1, 3)))
        self.assertEqual(exchanged_parts((7,) * 48, (7,) * 48)[3], (7,) * 48)

    def test_outcomes_have_a_parting(self):
        for base, mine, yours in product(SMALL, repeat=3):
            ahead, behind = both_sides(base, mine, yours)
            if ahead is not None and behind is not None:
                parts = exchanged_parts(ahead, behind)
                weight = len(parts[0]) + len(parts[4]) + min(len(parts[1]), len(parts[3]))
                self.assertLessEqual(weight, len(base))
                self.assertIs(sides_holds(ahead, behind, ("merge", base, mine, yours)), True)

    def test_merges_for_two_texts(self):
        shortest = {}
        for base in texts_to(2, 2):
            for mine, yours in product(texts_to(4, 2), repeat=2):
                ends = both_sides(base, mine, yours)
                if None not in ends and ends not in shortest:
                    shortest[ends] = len(base)
        for one, other in product(SMALL, repeat=2):
            paper = sides_paper(one, other)
            self.assertIs(sides_holds(one, other, paper), True)
            found = all_partings(one, other) if len(one) == len(other) else []
            if not found:
                self.assertEqual(paper, ("none",))
                self.assertNotIn((one, other), shortest)
            else:
                self.assertEqual(both_sides(*paper[1:]), (one, other))
                self.assertEqual(len(paper[1]), min(found)[0])
                self.assertEqual(len(paper[1]), shortest.get((one, other), len(paper[1])))
                self.assertIs(sides_holds(one, other, ("none",)), False)

    def test_merges_for_parts_put_together(self):
        generator = random.Random(38)
        shorter = {True: 0, False: 0}
        for _ in range(250):
            front, first, middle, second, back = (tuple(generator.randrange(4) for _ in range(generator.randint(0, 2)))
                                                  for _ in range(5))
            one, other = front + first + middle + second + back, front + second + middle + first + back
            weight, lengths, parts = min(all_partings(one, other))
            self.assertEqual(exchanged_parts(one, other), parts)
            paper = sides_paper(one, other)
            self.assertEqual((paper[0], len(paper[1])), ("merge", weight))
            self.assertEqual(both_sides(*paper[1:]), (one, other))
            self.assertIs(sides_holds(one, other, paper), True)
            shorter[lengths[1] > lengths[3]] += 1
        self.assertGreater(min(shorter.values()), 5)

    def test_merge_papers_changed_at_one_place(self):
        self.assertIs(sides_holds((0, 1), (1, 0), ("merge", (), (0,), (1,))), True)
        self.assertIs(sides_holds((0, 1), (1, 0), ("merge", (0,), (0, 0), (1,))), True)
        self.assertIs(sides_holds((0, 1), (1, 0), ("merge", (0,), (0, 0), (1, 0))), False)
        self.assertIs(sides_holds((0, 2, 1), (1, 2, 0), ("merge", (0,), (0, 2, 0), (1,))), True)
        self.assertIs(sides_holds((0,), (1,), ("none",)), True)
        for wrong in (("none",), ["none"], ("merge", [], (0,), (1,)), ("merge", (), (0,), [1]), ("merge", (), (1,), (0,)),
                      ("merge", (), (0,)), ("merge", (), (0,), (1,), ()), ("Merge", (), (0,), (1,)),
                      ("merge", (), (False,), (1,)), ("merge", None, (0,), (1,)), ("clash",)) + STRANGE:
            self.assertIs(sides_holds((0, 1), (1, 0), wrong), False, wrong)
        for wrong in STRANGE:
            self.assertIs(sides_holds((0,), (1,), wrong), False, wrong)

    def test_all_orders_of_hands(self):
        generator = random.Random(39)
        kinds = {}
        for at in range(1500):
            base = generator.choice(SMALL)
            if at % 3 == 0:
                front, block, back = (generator.choice(texts_to(1, 2)) for _ in range(3))
                base = front + block * generator.randint(0, 4) + back
                versions = [front + block * generator.randint(0, 5) + back for _ in range(generator.randint(1, 4))]
            else:
                versions = [generator.choice(SMALL + [base]) for _ in range(generator.randint(1, 3))]
            ends = all_orders(base, versions)
            for order in list(ends)[:10]:
                self.assertEqual(hands_end(base, versions, order), ends[order])
            whole = {ends[order] for order in ends if len(order) == len(versions)}
            paper = orders_paper(base, versions)
            self.assertIs(orders_holds(base, versions, paper), True)
            kinds[paper[0]] = kinds.get(paper[0], 0) + 1
            self.assertEqual(len(whole) == 1 and None not in whole, paper[0] in ("one", "block"), (base, versions))
            others = [at for at, version in enumerate(versions) if version != base]
            if len(others) < 2:
                self.assertEqual(paper, ("one", others[0] if others else -1))
            elif paper[0] == "block":
                form = all_forms(base, versions[others[0]]).pop()
                self.assertEqual(paper[1:5], form[:4])
                for version, times in zip(versions, paper[5]):
                    self.assertEqual(version, form[0] + form[1] * times + form[2])
            elif paper[0] == "clash":
                self.assertIsNone(ends[paper[1]])
                self.assertIsNotNone(ends[paper[1][:-1]])
            else:
                self.assertEqual(sorted(paper[1]), sorted(paper[2]))
                self.assertNotIn(None, (ends[paper[1]], ends[paper[2]]))
                self.assertNotEqual(ends[paper[1]], ends[paper[2]])
        self.assertGreater(min(kinds.values()), 50)
        self.assertEqual(sorted(kinds), ["apart", "block", "clash", "one"])

    def test_order_papers_of_every_kind(self):
        generator = random.Random(391)
        values = [("one", place) for place in range(-2, 4)]
        orders = [order for many in range(4) for order in permutations(range(3), many)]
        values += [("clash", order) for order in orders] + [("apart",) + pair for pair in product(orders, repeat=2)]
        values += [("clash", (0, 0)), ("clash", (3,)), ("apart", (0, 0), (0, 0))]
        for numbers in product(range(4), repeat=3):
            values += [("block", (), (1,), (), times, numbers) for times in range(3)]
        held = {}
        for at in range(60):
            base = (1,) * generator.randint(0, 3) if at % 2 else generator.choice(SMALL)
            versions = [(1,) * generator.randint(0, 3) if at % 2 else generator.choice(SMALL) for _ in range(3)]
            ends = all_orders(base, versions)
            right = orders_paper(base, versions)
            for value in values:
                holds = value == right
                if value[0] == "clash":
                    order = value[1]
                    holds = order in ends and order != () and ends[order] is None and ends[order[:-1]] is not None
                if value[0] == "apart":
                    came = [ends.get(order) for order in value[1:]]
                    alike = sorted(value[1]) == sorted(value[2])
                    holds = alike and None not in came and came[0] != came[1]
                self.assertIs(orders_holds(base, versions, value), holds, (base, versions, value))
                held[value[0]] = held.get(value[0], 0) + holds
        self.assertGreater(min(held.values()), 0)
        told = ((1, 1), ((1,), (1, 1, 1), (1, 1)))
        right = orders_paper(*told)
        self.assertEqual(right, ("block", (), (1,), (), 2, (1, 3, 2)))
        for wrong in (as_lists(right), right[:5], right[:5] + ([1, 3, 2],), right[:5] + ((True, 3, 2),), right + (0,),
                      ("one", -1), ("clash", [0, 1]), ("apart", (0, 1), [1, 0])) + STRANGE:
            self.assertIs(orders_holds(*told, wrong), False, wrong)
        self.assertIs(orders_holds((), [(1,), (2,)], ("apart", (0, 1), (1, 0))), True)
        self.assertIs(orders_holds((), [(1,), (2,)], ("apart", (False, 1), (1, 0))), False)
        self.assertIs(orders_holds((0,), [(1,), (2,)], ("clash", (0, True))), False)

    def test_edges_of_hands(self):
        self.assertEqual(orders_paper((1,), [(1,), (1,)]), ("one", -1))
        self.assertEqual(orders_paper((1,), [(1,), [2], (1,)]), ("one", 1))
        self.assertEqual(orders_paper((1,), [(2,)]), ("one", 0))
        self.assertIs(orders_holds((1,), [(2,)], ("one", False)), False)
        self.assertEqual(orders_paper((), [(1, 2), (1, 2)]), ("block", (), (1, 2), (), 0, (1, 1)))
        self.assertEqual(orders_paper((5, 1, 1, 6), [(5, 1, 6), (5, 6)])[0], "clash")
        self.assertEqual(orders_paper((1,) * 4, [(1,) * 3] * 4), ("block", (), (1,), (), 4, (3,) * 4))
        self.assertEqual(orders_paper((1,) * 4, [(1,) * 3] * 5), ("clash", (0, 1, 2, 3, 4)))
        self.assertEqual(orders_paper((1,) * 4, [(1,) * 3, (1,) * 9, (1,) * 2, (1,) * 2]), ("clash", (0, 2, 3)))
        self.assertEqual(hands_end((1,), [(1, 2), (3, 1)], ()), (1,))
        self.assertEqual(hands_end((1,), [(1, 2), (3, 1)], [0, 1]), (3, 1, 2))
        self.assertIsNone(hands_end((1,), [(1, 2), (3, 1)], (1, 0)))

    def test_yours_with_which_both_sides_go(self):
        for base, mine in product(SMALL, repeat=2):
            for letters, length in ((2, 0), (2, 1), (2, 3), (2, 5), (3, 4)):
                found = [yours for yours in product(range(letters), repeat=length) if None not in both_sides(base, mine, yours)]
                self.assertEqual(both_count(base, mine, letters, length), len(found))
                self.assertEqual([nth_both(base, mine, letters, length, at) for at in range(len(found))], found)
                self.refuses(InvalidIndex, -1, nth_both, base, mine, letters, length, len(found))
            if mine == base:
                self.refuses(Refused, -1, alike_yours, base, mine, 3)
                continue
            for length in (0, 2, 5):
                alike = [yours for many in range(length + 1) for yours in product(range(2), repeat=many)
                         if None not in both_sides(base, mine, yours) and len(set(both_sides(base, mine, yours))) == 1]
                self.assertEqual(alike_yours(base, mine, length), tuple(alike))

    def test_when_both_sides_go(self):
        for base, mine, yours in product(SMALL, repeat=3):
            end, front = 0, 0
            while end < min(len(base), len(mine)) and base[len(base) - 1 - end] == mine[len(mine) - 1 - end]:
                end += 1
            while front < min(len(base), len(mine)) and base[front] == mine[front]:
                front += 1
            ahead, behind = base[:len(base) - end], base[front:]
            goes = yours[:len(ahead)] == ahead and yours[max(0, len(yours) - len(behind)):] == behind
            self.assertEqual(None not in both_sides(base, mine, yours), goes)

    def test_yours_of_great_length(self):
        self.assertEqual(both_count((), (5,), 100, 60), 100 ** 60)
        self.assertEqual(nth_both((), (5,), 100, 60, 100 ** 60 - 1), (99,) * 60)
        self.assertEqual(nth_both((), (5,), 10, 4, 1234), (1, 2, 3, 4))
        self.assertEqual(both_count((0, 1), (0, 2, 1), 3, 60), 3 ** 58)
        self.assertEqual(len(alike_yours((), (1, 2), 30)), 16)
        self.assertEqual(alike_yours((1,) * 10, (1,) * 3, 30), tuple((1,) * many for many in range(7, 31)))
        self.assertEqual(alike_yours((1, 2), (3,), 1), ())
        self.assertEqual(alike_yours((1, 2), (3,), 2), ((1, 2),))

    def test_wrong_inputs(self):
        for wrong in STRANGE:
            for at in range(3):
                told = [(0,)] * 3
                told[at] = wrong
                self.refuses(InvalidText, at, both_sides, *told)
                self.refuses(InvalidText, at, alike_paper, *told)
                self.refuses(InvalidText, at, alike_holds, *told, None)
                if at < 2:
                    for function in (block_form, exchanged_parts, sides_paper):
                        self.refuses(InvalidText, at, function, *told[:2])
                    self.refuses(InvalidText, at, sides_holds, *told[:2], None)
                    self.refuses(InvalidText, at, both_count, *told[:2], None, None)
                    self.refuses(InvalidText, at, nth_both, *told[:2], None, None, None)
                    self.refuses(InvalidText, at, alike_yours, *told[:2], None)
            self.refuses(InvalidText, -1, hands_end, wrong, None, None)
            self.refuses(InvalidText, -1, orders_paper, wrong, None)
            self.refuses(InvalidText, -1, orders_holds, wrong, None, None)
            self.refuses(InvalidVersions, 1, hands_end, (), [(), wrong, ()], None)
            self.refuses(InvalidVersions, 1, orders_paper, (), [(), wrong, ()])
            self.refuses(InvalidVersions, 1, orders_holds, (), [(), wrong, ()], None)
        self.refuses(InvalidText, 0, both_sides, None, None, None)
        self.refuses(InvalidText, 1, alike_paper, (), (True,), None)
        for wrong in (None, 1, "a", (), [], True):
            self.refuses(InvalidVersions, -1, hands_end, (), wrong, None)
            self.refuses(InvalidVersions, -1, orders_paper, (), wrong)
            self.refuses(InvalidVersions, -1, orders_holds, (), wrong, None)

    def test_wrong_orders_and_sizes(self):
        versions = [(), (), (1,), (), (), ()]
        for wrong in (None, 1, "0", True):
            self.refuses(InvalidOrder, -1, hands_end, (), versions, wrong)
        for at, wrong in ((0, (6,)), (1, (0, -1)), (1, (0, 0)), (2, (0, 1, 1)), (0, (True,)), (1, [1, None]), (0, ("0",))):
            self.refuses(InvalidOrder, at, hands_end, (), versions, wrong)
        for wrong in (None, 0, 101, -1, True, "3", (3,), 2, 10 ** 20):
            self.refuses(InvalidSize, "letters", both_count, (0, 1), (2,), wrong, None)
            self.refuses(InvalidSize, "letters", nth_both, (2, 1), (0,), wrong, None, None)
        for wrong in (None, 0, 101, -1, True):
            self.refuses(InvalidSize, "letters", both_count, (), (), wrong, 3)
        for wrong in (None, -1, True, "3", (3,)):
            self.refuses(InvalidSize, "length", both_count, (0, 1), (2,), 3, wrong)
            self.refuses(InvalidSize, "length", nth_both, (0, 1), (2,), 100, wrong, None)
            self.refuses(InvalidSize, "length", alike_yours, (1,), (1,), wrong)
            self.refuses(InvalidIndex, -1, nth_both, (), (), 1, 2, wrong)
        self.assertEqual(both_count((), (), 1, 3), 1)
        self.refuses(InvalidIndex, -1, nth_both, (0, 1), (0, 2, 1), 3, 4, 9)
        self.refuses(InvalidIndex, -1, nth_both, (0, 1), (1, 0), 2, 3, 0)
