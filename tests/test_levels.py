"""Promise [28]: orders of merges in a chain, last bases, rounds, beginnings of branches."""

import random
from itertools import combinations, permutations

from cancelsback.chains import chain_text
from cancelsback.errors import InvalidChain, InvalidIndex, InvalidOrder, Refused
from cancelsback.levels import branch_begins, last_bases, least_rounds, nth_order, order_count, order_place
from cancelsback.merges import merge_texts
from tests.support import Case, STRANGE
from tests.test_chains import CHAIN, random_chain

FREE = ((1, 1), (1,)) * 5 + ((1, 1),)


def shorter(parts, at):
    """The parts (place, text) with the base at this one merged, or None."""
    came = merge_texts(parts[at][1], parts[at - 1][1], parts[at + 1][1])
    return None if came is None else parts[:at - 1] + ((parts[at - 1][0], came),) + parts[at + 2:]


def all_orders(parts):
    """All orders by the words of the promise, ascending."""
    if len(parts) == 1:
        return [()]
    found = []
    for at in range(1, len(parts), 2):
        left = shorter(parts, at)
        if left is not None:
            found += [(parts[at][0],) + order for order in all_orders(left)]
    return sorted(found)


def first_unclean(parts, order):
    """The first place of an order that is not clean by then, None if all are."""
    for place in order:
        left = shorter(parts, [number for number, _ in parts].index(place))
        if left is None:
            return place
        parts = left
    return None


def rounds_by_trying(parts):
    """The fewest rounds to one text by trying all of them."""
    reached, rounds = {parts}, 0
    while reached:
        if any(len(left) == 1 for left in reached):
            return rounds
        after = set()
        for left in reached:
            clean = [at for at in range(1, len(left), 2) if shorter(left, at) is not None]
            for many in range(1, len(clean) + 1):
                for chosen in combinations(clean, many):
                    if all(other - one > 2 for one, other in zip(chosen, chosen[1:])):
                        came = left
                        for at in chosen[::-1]:
                            came = shorter(came, at)
                        after.add(came)
        reached, rounds = after, rounds + 1
    return None


def begins_by_trying(chain):
    found = []
    for place in range(0, len(chain), 2):
        reached = {(place, place, chain[place])}
        grown = True
        while grown:
            grown = False
            for begin, end, text in list(reached):
                sides = []
                if begin > 0:
                    sides.append((begin - 2, end, merge_texts(chain[begin - 1], chain[begin - 2], text)))
                if end < len(chain) - 1:
                    sides.append((begin, end + 2, merge_texts(chain[end + 1], text, chain[end + 2])))
                for side in sides:
                    if side[2] is not None and side not in reached:
                        reached.add(side)
                        grown = True
        if any((begin, end) == (0, len(chain) - 1) for begin, end, _ in reached):
            found.append(place)
    return tuple(found)


class LevelsTest(Case):

    def test_small_chains(self):
        generator = random.Random(28)
        counts = {}
        for _ in range(700):
            chain = random_chain(generator, 4, 3, 2)
            parts = tuple(enumerate(chain))
            orders = all_orders(parts)
            counts[len(orders)] = counts.get(len(orders), 0) + 1
            self.assertEqual(order_count(chain), len(orders))
            self.assertEqual([nth_order(chain, at) for at in range(len(orders))], orders)
            self.assertEqual([order_place(chain, order) for order in orders], list(range(len(orders))))
            self.refuses(InvalidIndex, -1, nth_order, chain, len(orders))
            if len(chain) > 1:
                self.assertEqual(last_bases(chain), tuple(sorted({order[-1] for order in orders})))
            self.assertEqual(least_rounds(chain), rounds_by_trying(parts))
            self.assertEqual(branch_begins(chain), begins_by_trying(chain))
            for order in permutations(range(1, len(chain), 2)):
                if order not in orders:
                    self.refuses(Refused, first_unclean(parts, order), order_place, chain, order)
        self.assertGreaterEqual(set(counts), {0, 1, 2, 3, 6, 24})

    def test_what_holds_of_chains_with_a_text(self):
        generator = random.Random(281)
        tried = 0
        for _ in range(1500):
            chain = random_chain(generator, 5, 3, 2)
            if chain_text(chain) is None:
                self.assertEqual((order_count(chain), last_bases(chain), branch_begins(chain)), (0, (), ()))
                self.assertIsNone(least_rounds(chain))
                continue
            tried += 1
            lasts = tuple(place for place in range(1, len(chain), 2)
                          if chain_text(chain[:place]) is not None and chain_text(chain[place + 1:]) is not None)
            self.assertEqual(last_bases(chain), lasts)
            self.assertGreater(2 ** least_rounds(chain), len(chain) // 2)
            if len(chain) <= 5:
                self.assertNotEqual(branch_begins(chain), ())
        self.assertGreater(tried, 200)

    def test_the_chain_that_no_branch_tells(self):
        self.assertEqual((order_count(CHAIN), branch_begins(CHAIN), last_bases(CHAIN), least_rounds(CHAIN)), (2, (), (3,), 2))
        self.assertEqual([nth_order(CHAIN, number) for number in range(2)], [(1, 5, 3), (5, 1, 3)])
        self.assertEqual(order_place(CHAIN, [5, 1, 3]), 1)
        self.refuses(Refused, 3, order_place, CHAIN, (3, 1, 5))
        self.refuses(Refused, 3, order_place, CHAIN, (1, 3, 5))

    def test_one_text(self):
        for chain in (((),), [[1, 2]], ((5,),)):
            self.assertEqual((order_count(chain), nth_order(chain, 0), order_place(chain, ())), (1, (), 0))
            self.assertEqual((last_bases(chain), least_rounds(chain), branch_begins(chain)), ((), 0, (0,)))
            self.refuses(InvalidIndex, -1, nth_order, chain, 1)

    def test_chains_of_many_texts(self):
        self.assertEqual(order_count(FREE), 120)
        self.assertEqual(nth_order(FREE, 119), (9, 7, 5, 3, 1))
        self.assertEqual(order_place(FREE, (3, 1, 5, 9, 7)), 24 + 1)
        self.assertEqual((last_bases(FREE), least_rounds(FREE), branch_begins(FREE)), ((1, 3, 5, 7, 9), 3, (0, 2, 4, 6, 8, 10)))
        longest = ((0,) * 18, (0,) * 9) * 7 + ((0,) * 18,)
        self.assertEqual((order_count(longest), least_rounds(longest)), (5040, 3))
        self.assertEqual(nth_order(longest, 5039), (13, 11, 9, 7, 5, 3, 1))
        self.assertEqual(order_place(longest, nth_order(longest, 2345)), 2345)

    def test_wrong_inputs(self):
        functions = (order_count, last_bases, least_rounds, branch_begins)
        for wrong in STRANGE:
            for function in functions:
                self.refuses(InvalidChain, 1, function, [(), wrong, ()])
            self.refuses(InvalidChain, 2, nth_order, ((), (), wrong), None)
            self.refuses(InvalidChain, 0, order_place, (wrong, (), ()), None)
        for wrong in (None, 1, True, "a", (), [], [()] * 2, [()] * 16, [()] * 17):
            for function in functions:
                self.refuses(InvalidChain, -1, function, wrong)
            self.refuses(InvalidChain, -1, nth_order, wrong, None)
            self.refuses(InvalidChain, -1, order_place, wrong, None)
        for wrong in (None, True, False, -1, 2, "0", (0,), 10 ** 20):
            self.refuses(InvalidIndex, -1, nth_order, CHAIN, wrong)
        for wrong in (None, 1, "135", (), (1, 3), (1, 3, 3), (1, 3, 5, 7), (0, 2, 4), (True, 3, 5), (1, 3, "5"), (1, 3, None),
                      (1, 3, 4), ((1,), 3, 5), (-1, 3, 5), {1: 1, 3: 3, 5: 5}):
            self.refuses(InvalidOrder, -1, order_place, CHAIN, wrong)
        without = ((1,), (2,), (3,))
        self.refuses(InvalidIndex, -1, nth_order, without, 0)
        self.refuses(Refused, 1, order_place, without, (1,))
        self.refuses(InvalidOrder, -1, order_place, without, ())
        self.refuses(InvalidOrder, -1, order_place, ((),), (1,))
