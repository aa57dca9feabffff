"""Promises [53] and [54]: what can come of bags, and what is lost."""

import random
from itertools import product

from cancelsback.amounts import bag_history, bag_merge, bags_bring, bags_form, least_debt, lost_bags, sums_reach, text_bag
from cancelsback.errors import InvalidBag, InvalidBags, InvalidSize, InvalidText
from cancelsback.merges import merge_texts
from tests.support import Case, STRANGE

THREE = [(1, 1, 1), (3, 0, 0), (0, 3, 0)]
NO_BAGS = (None, 3, True, "a", (), (0,) * 5, (-1,), (True,), (None,), ("1",), ((1,),), (1, None))


def coming_in_box(bags, most, many):
    """Bags that come by merges whose numbers all stay small, at least some of them."""
    known = set(bags)
    grown = True
    while grown and len(known) < many:
        grown = False
        for base, mine, yours in product(sorted(known), repeat=3):
            came = tuple(kept - gone + put for gone, kept, put in zip(base, mine, yours))
            if min(came) >= 0 and max(came) <= most and came not in known:
                known.add(came)
                grown = True
    return known


def form_brings(form, letters, bag):
    """Whether the bag is one of those that the form tells."""
    free, group, rows = form
    tight = tuple(bag[at] for at in range(letters) if at not in free)
    for numbers, rest in rows:
        if numbers == tight:
            left = [bag[letter] - number for letter, number in zip(free, rest)]
            for row in group:
                lead = lead_of(row)
                times = left[lead] // row[lead]
                left = [number - times * other for number, other in zip(left, row)]
            return not any(left)
    return False


def lead_of(row):
    return next(at for at, number in enumerate(row) if number != 0)


def raised(bag, more):
    return tuple(number + more for number in bag)


def random_bags(generator, letters, most, many):
    bags = {tuple(generator.randint(0, most) for _ in range(letters)) for _ in range(many)}
    return generator.sample(sorted(bags), len(bags))


def level_bags(generator, total, many):
    """Bags of three letters together as many, now and then with a fourth one as many as the first."""
    bags = set()
    for _ in range(many):
        first = generator.randint(0, total)
        second = generator.randint(0, total - first)
        bags.add((first, second, total - first - second))
    bags = generator.sample(sorted(bags), len(bags))
    return [bag + bag[:1] for bag in bags] if generator.random() < 0.3 else bags


def half_free_bags(generator, many):
    """Bags with a free letter, the others together as many in each: the first two differ in the free one alone."""
    total = generator.randint(1, 3)
    bags = []
    for bag in level_bags(generator, total, many):
        bags.append((generator.randint(0, 3),) + bag[:3])
    more = (bags[0][0] + generator.randint(1, 3),) + bags[0][1:]
    bags = list(dict.fromkeys([bags[0], more] + bags))
    return bags if generator.random() < 0.5 else [bag[:3] + bag[4:] for bag in bags if bag[3] == 0] or bags


def small_lots(generator, many):
    """Lots of told bags of all the kinds that the limits tell."""
    for _ in range(many):
        yield random_bags(generator, 1, 12, generator.randint(1, 5))
        yield random_bags(generator, 2, 8, generator.randint(1, 5))
        yield random_bags(generator, generator.randint(3, 4), 8, 2)
        yield random_bags(generator, generator.randint(3, 4), 3, generator.randint(1, 5))
        yield level_bags(generator, generator.randint(1, 12), generator.randint(1, 5))
        first = tuple(generator.randint(0, 3) for _ in range(4))
        more = tuple(number + generator.randint(1, 4) for number in first)
        yield list(dict.fromkeys([first, more] + random_bags(generator, 4, 7, 3)))
        yield half_free_bags(generator, 4)


class BagsTest(Case):

    def test_bag_merge(self):
        self.assertEqual(bag_merge((1, 0), [2, 1], (0, 3)), (1, 4))
        self.assertIsNone(bag_merge((3, 0), (1, 0), (1, 9)))
        self.assertEqual(bag_merge((2,), (1,), (1,)), (0,))
        self.assertEqual(bag_merge((0, 0, 0, 0), (0, 0, 0, 1), (1, 0, 0, 0)), (1, 0, 0, 1))

    def test_wrong_bags_of_a_merge(self):
        for wrong in NO_BAGS:
            self.refuses(InvalidBag, 0, bag_merge, wrong, wrong, wrong)
            self.refuses(InvalidBag, 1, bag_merge, (1,), wrong, wrong)
            self.refuses(InvalidBag, 2, bag_merge, (1,), (1,), wrong)
        self.refuses(InvalidBag, 1, bag_merge, (1, 1), (1,), (1, 1, 1))
        self.refuses(InvalidBag, 2, bag_merge, (1, 1), (1, 1), (1, 1, 1))

    def test_text_bag(self):
        self.assertEqual(text_bag((0, 2, 0), 3), (2, 0, 1))
        self.assertEqual(text_bag([], 1), (0,))
        self.assertEqual(text_bag((3, 3), 4), (0, 0, 0, 2))
        for letters in (0, 5, 2, -1, True, None, "3", (3,)):
            self.refuses(InvalidSize, "letters", text_bag, (0, 2, 0), letters)
        self.refuses(InvalidSize, "letters", text_bag, (), 0)
        for text in (None, True, 3, "a", (100,), (True,), ((),)):
            self.refuses(InvalidText, -1, text_bag, text, None)

    def test_bags_of_merged_texts(self):
        generator = random.Random(53)
        found = 0
        for _ in range(3000):
            texts = [tuple(generator.randrange(3) for _ in range(generator.randint(0, 4))) for _ in range(3)]
            came = merge_texts(*texts)
            if came is not None:
                found += 1
                bags = [text_bag(text, 3) for text in texts]
                self.assertEqual(bag_merge(*bags), text_bag(came, 3))
                self.assertIs(bags_bring(list(dict.fromkeys(bags)), text_bag(came, 3)), True)
        self.assertGreater(found, 100)

    def test_what_comes_of_texts_comes_of_their_bags(self):
        generator = random.Random(61)
        tried = 0
        for _ in range(300):
            texts = list({tuple(generator.randrange(2) for _ in range(generator.randint(0, 4))) for _ in range(4)})
            told = list(dict.fromkeys(text_bag(text, 2) for text in texts))
            for _ in range(30):
                came = merge_texts(*[generator.choice(texts) for _ in range(3)])
                if came is not None and came not in texts and len(came) < 12:
                    texts.append(came)
            for text in texts:
                tried += text_bag(text, 2) not in told
                self.assertIs(bags_bring(told, text_bag(text, 2)), True)
        self.assertGreater(tried, 100)

    def test_wrong_told_bags(self):
        functions = (lambda bags: bags_bring(bags, None), lambda bags: bag_history(bags, None), bags_form,
                     lambda bags: sums_reach(bags, None), lambda bags: lost_bags(bags, None),
                     lambda bags: least_debt(bags, None))
        for function in functions:
            for bags in (None, (), [], 3, True, "ab"):
                self.refuses(InvalidBags, -1, function, bags)
            for wrong in NO_BAGS:
                self.refuses(InvalidBags, 0, function, [wrong, wrong])
                self.refuses(InvalidBags, 1, function, [(1,), wrong, wrong])
            self.refuses(InvalidBags, 1, function, [(1, 2), (1,)])
            self.refuses(InvalidBags, 2, function, [(1, 2), [2, 1], [1, 2], None])
        for wrong in STRANGE:
            self.refuses(InvalidBags, 1, bags_form, [(1, 2, 3), wrong])

    def test_wrong_bag(self):
        for function in (bags_bring, bag_history, sums_reach, least_debt):
            for wrong in NO_BAGS + ((1, 2), (1, 2, 3, 4)):
                self.refuses(InvalidBag, -1, function, THREE, wrong)
        for most in (-1, True, None, "3", (3,)):
            self.refuses(InvalidSize, "most", lost_bags, THREE, most)


class ComingTest(Case):

    def check_history(self, told, bag, history):
        bags = []
        for at, step in enumerate(history):
            self.assertIsInstance(step, tuple)
            if step[0] == "told":
                self.assertIn(step[1], told)
                bags.append(step[1])
            else:
                self.assertEqual((step[0], len(step)), ("merge", 4))
                self.assertTrue(all(0 <= part < at for part in step[1:]))
                bags.append(bag_merge(*[bags[part] for part in step[1:]]))
                self.assertIsNotNone(bags[-1])
        self.assertEqual(bags[-1], bag)

    def check_bag(self, told, form, bag):
        """All that tells whether the bag can come tells the same."""
        brings = bags_bring(told, bag)
        self.assertIs(brings, form_brings(form, len(bag), bag))
        history = bag_history(told, bag)
        self.assertEqual(history is not None, brings)
        if brings:
            self.check_history(told, bag, history)
            self.assertIs(sums_reach(told, bag), True)
        return brings

    def test_what_can_come(self):
        generator = random.Random(54)
        brought = 0
        for told in small_lots(generator, 40):
            form = bags_form(told)
            self.check_form(form, len(told[0]))
            for most in (4, 4, 12, 60, 499):
                bag = tuple(generator.randint(0, most) for _ in told[0])
                brought += self.check_bag(told, form, bag)
            for bag in told:
                self.assertTrue(self.check_bag(told, form, bag))
        self.assertGreater(brought, 50)

    def check_form(self, form, letters):
        free, group, rows = form
        self.assertEqual(list(free), sorted(set(free)))
        leads = [lead_of(row) for row in group]
        self.assertEqual(leads, sorted(set(leads)))
        for row in group:
            self.assertEqual(len(row), len(free))
            self.assertGreater(row[lead_of(row)], 0)
        for at, row in enumerate(group):
            for lower in range(at + 1, len(group)):
                self.assertIn(row[leads[lower]], range(group[lower][leads[lower]]))
        self.assertEqual(list(rows), sorted(rows))
        for tight, rest in rows:
            self.assertEqual((len(tight), len(rest)), (letters - len(free), len(free)))
            for row, lead in zip(group, leads):
                self.assertIn(rest[lead], range(row[lead]))
        for one, other in product(rows, repeat=2):
            if one != other:
                self.assertFalse(all(first <= second for first, second in zip(one[0], other[0])))

    def test_small_ones_by_all_merges(self):
        generator = random.Random(55)
        for told in small_lots(generator, 15):
            form = bags_form(told)
            for bag in coming_in_box(told, max(max(bag) for bag in told) + 2, 25):
                self.assertTrue(form_brings(form, len(bag), bag), (told, bag))

    def test_all_that_the_form_tells_of_finite_lots(self):
        generator = random.Random(56)
        for _ in range(60):
            told = level_bags(generator, generator.randint(1, 5), generator.randint(1, 5))
            rows = {tight for tight, _ in bags_form(told)[2]}
            self.assertEqual(rows, coming_in_box(told, 99, 999))

    def test_the_form_is_that_of_all_that_can_come(self):
        generator = random.Random(57)
        tried = 0
        for told in small_lots(generator, 25):
            form = bags_form(told)
            self.assertEqual(bags_form(told[::-1]), form)
            for _ in range(40):
                bag = tuple(generator.randint(0, 59) for _ in told[0])
                if form_brings(form, len(bag), bag) and bag not in told:
                    self.assertEqual(bags_form(told + [bag]), form)
                    tried += 1
        self.assertGreater(tried, 50)

    def test_the_form_is_closed(self):
        generator = random.Random(58)
        for told in small_lots(generator, 25):
            free, group, rows = form = bags_form(told)
            self.assertTrue(all(form_brings(form, len(bag), bag) for bag in told))
            if len(rows) <= 25:
                for base, mine, yours in product(rows, repeat=3):
                    whole, rest = [self.put_together(base[side], mine[side], yours[side]) for side in (0, 1)]
                    if min(whole, default=0) >= 0:
                        bag = [whole.pop(0) if letter not in free else rest.pop(0) for letter in range(len(told[0]))]
                        self.assertTrue(form_brings(form, len(bag), bag))

    def put_together(self, base, mine, yours):
        return [kept - gone + put for gone, kept, put in zip(base, mine, yours)]

    def test_one_bag(self):
        self.assertEqual(bags_form([(3, 0, 5)]), ((), (), (((3, 0, 5), ()),)))
        self.assertEqual(bag_history([(2,)], (2,)), (("told", (2,)),))
        self.assertIsNone(bag_history([(2,)], (3,)))
        self.assertEqual(bags_form([(0,)]), ((), (), (((0,), ()),)))

    def test_one_letter(self):
        self.assertEqual(bags_form([(12,), (8,)]), ((0,), ((4,),), (((), (0,)),)))
        self.assertEqual(bags_form([(12,), (7,), (2,)]), ((0,), ((5,),), (((), (2,)),)))
        self.check_history([(12,), (7,)], (497,), bag_history([(12,), (7,)], (497,)))

    def test_a_letter_that_is_free_only_after_another_one(self):
        told = [(0, 0, 2), (1, 0, 2), (0, 3, 1), (0, 1, 2)]
        form = bags_form(told)
        self.assertEqual(form[0], (0, 1, 2) if bags_bring(told, (0, 0, 3)) else (0, 1))
        for bag in ((5, 5, 2), (0, 2, 1), (400, 3, 1), (7, 9, 2)):
            self.check_bag(told, form, bag)
        told = [(0, 3, 0), (1, 3, 0), (0, 0, 1), (2, 1, 1)]
        for bag in product((0, 1, 2, 9), repeat=3):
            self.check_bag(told, bags_form(told), bag)

    def test_far_greater_numbers(self):
        far = 10 ** 12
        told = [tuple(far * number for number in bag) for bag in THREE]
        self.assertEqual(bags_form(told)[2], tuple((bag, ()) for bag in sorted(told)))
        told = [(far, 0), (0, far), (far + 1, 1)]
        self.check_bag(told, bags_form(told), (5 * far, 7))

    def test_like_steps_with_unlike_free_letters(self):
        told = [(1, 0, 2), (3, 0, 2), (0, 2, 0), (0, 1, 1)]
        form = ((0,), ((1,),), (((0, 2), (0,)), ((1, 1), (0,)), ((2, 0), (0,))))
        for lot in (told, told[::-1], told[2:] + told[:2]):
            self.assertEqual(bags_form(lot), form)
            for bag in ((7, 1, 1), (0, 0, 2), (498, 2, 0), (4, 2, 0), (4, 2, 1)):
                self.check_bag(lot, form, bag)
        told = [(1, 0, 2), (4, 0, 2), (0, 2, 0), (2, 1, 1)]
        self.assertEqual(bags_form(told)[:2], ((0,), ((3,),)))

    def test_greatest_numbers(self):
        told = [(3, 1, 2, 0), (0, 3, 1, 2), (1, 0, 3, 3), (2, 2, 0, 1), (3, 3, 3, 3)]
        form = bags_form(told)
        for bag in ((499, 499, 499, 499), (0, 499, 1, 250), (498, 0, 0, 0), (0, 0, 0, 0)):
            self.check_bag(told, form, bag)
        level = [(2, 3, 3, 3), (3, 2, 3, 3), (3, 3, 2, 3), (3, 3, 3, 2)]
        self.assertEqual(len(bags_form(level)[2]), 364)
        self.assertEqual(len(bags_form([(12, 0, 0), (0, 12, 0), (11, 1, 0), (11, 0, 1)])[2]), 91)


class LostTest(Case):

    def test_sums(self):
        self.assertIs(sums_reach(THREE, (0, 0, 3)), True)
        self.assertIs(sums_reach(THREE, (0, 0, 2)), False)
        self.assertIs(sums_reach([(4, 1)], (4, 1)), True)
        self.assertIs(sums_reach([(4, 1)], (8, 2)), False)
        generator = random.Random(58)
        for told in small_lots(generator, 10):
            for _ in range(20):
                times = [generator.randint(-3, 3) for _ in told[1:]]
                times = [1 - sum(times)] + times
                bag = tuple(sum(many * part[at] for many, part in zip(times, told)) for at in range(len(told[0])))
                if min(bag) >= 0:
                    self.assertIs(sums_reach(told, bag), True)
                    other = (bag[0] + 1,) + bag[1:]
                    more = told if bag in told else told + [bag]
                    self.assertEqual(sums_reach(told, other), sums_reach(more, other))

    def test_what_is_lost(self):
        self.assertEqual(lost_bags(THREE, 3), ((0, 0, 3),))
        self.assertEqual(lost_bags(THREE, 2), ())
        for least in range(3):
            told = [(1, 1, 1)] + [tuple(3 * (at == letter) for at in range(3)) for letter in range(3) if letter != least]
            bag = tuple(3 * (at == least) for at in range(3))
            self.assertEqual(lost_bags(told, 3), (bag,))
            self.assertEqual(lost_bags(told, 2), ())
            self.assertEqual(lost_bags([part + part[:1] for part in told], 3), (bag + bag[:1],))
        self.assertEqual(lost_bags([(3,), (5,)], 0), ())
        generator = random.Random(59)
        found = 0
        lots = [level_bags(generator, generator.randint(3, 12), 3) for _ in range(60)] + [THREE]
        lots += [random_bags(generator, 3, 3, 3) for _ in range(20)] + [random_bags(generator, 2, 4, 3) for _ in range(20)]
        for told in lots:
            most = 4
            lost = lost_bags(told, most)
            expected = [bag for bag in product(range(most + 1), repeat=len(told[0]))
                        if sums_reach(told, bag) and not bags_bring(told, bag)]
            self.assertEqual(lost, tuple(expected))
            for bag in lost:
                found += 1
                self.check_debt(told, bag)
        self.assertGreater(found, 0)

    def check_debt(self, told, bag):
        """The debt is the least one with which the bag can come; returns it."""
        debt = least_debt(told, bag)
        for more in range(debt + 2):
            brings = bags_bring([raised(part, more) for part in told], raised(bag, more))
            self.assertEqual(brings, more >= debt)
        return debt

    def test_debts(self):
        self.assertEqual(self.check_debt(THREE, (0, 0, 3)), 1)
        self.assertEqual(least_debt(THREE, (1, 1, 1)), 0)
        self.assertIsNone(least_debt(THREE, (0, 0, 4)))
        self.assertEqual(least_debt([(2,)], (2,)), 0)
        self.assertIsNone(least_debt([(2,)], (3,)))
        self.assertEqual(self.check_debt([(3, 3, 2, 3), (1, 1, 6, 1), (8, 0, 0, 8)], (0, 8, 0, 0)), 2)
        self.assertEqual(self.check_debt([(4, 3, 4, 4), (11, 0, 0, 11), (1, 9, 1, 1)], (0, 0, 11, 0)), 3)
        self.assertEqual(self.check_debt([(0, 3, 2, 0), (3, 1, 1, 1), (0, 0, 1, 3)], (9, 0, 0, 0)), 1)

    def test_nothing_is_lost(self):
        generator = random.Random(60)
        lots = [random_bags(generator, generator.randint(1, 2), 8, generator.randint(1, 5)) for _ in range(40)]
        lots += [random_bags(generator, generator.randint(3, 4), 8, 2) for _ in range(40)]
        for _ in range(40):
            first = tuple(generator.randint(0, 3) for _ in range(3))
            row = tuple(generator.randint(-2, 2) for _ in range(3))
            lot = [tuple(number + times * more for number, more in zip(first, row)) for times in range(-3, 4)]
            lots.append([bag for bag in dict.fromkeys(lot) if min(bag) >= 0][:5])
            more = raised(first, generator.randint(1, 4))
            lots.append(list(dict.fromkeys([first, more] + random_bags(generator, 3, 7, 3))))
        for told in lots:
            self.assertEqual(lost_bags(told, 6), ())

    def test_far_bags(self):
        told = [(3, 0, 1), (0, 2, 2), (1, 1, 0), (2, 2, 3)]
        for bag in ((499, 499, 499), (0, 0, 1), (250, 3, 0)):
            debt = least_debt(told, bag)
            self.assertEqual(debt is not None, sums_reach(told, bag))
            if debt is not None:
                self.assertEqual(debt == 0, bags_bring(told, bag))
        self.assertEqual(len(lost_bags(THREE, 12)), 1)
