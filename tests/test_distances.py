"""Promises [31] and [32]: reaches of merges and chains, window texts, links of beginnings."""

import random
from itertools import permutations, product

from cancelsback.distances import chain_reach, front_links, links_hold, merge_reach, window_texts
from cancelsback.errors import InvalidChain, InvalidSize, InvalidText, InvalidTexts, InvalidVersions
from cancelsback.merges import merge_cuts, merge_texts
from tests.support import Case, STRANGE, as_lists, come_at, leads_at, linked_classes, random_lot, texts_to
from tests.test_chains import random_chain

TOLD = ((1, 2, 3), (4, 2, 3), (1, 2, 5))
ABOVE_ALL = 1000


def as_number(reach):
    return ABOVE_ALL if reach is None else reach


def reach_of_order(chain, order):
    """The least reach met where bases are merged in this order, -1 if one clashes."""
    parts = [[place, text] for place, text in enumerate(chain)]
    least = ABOVE_ALL
    for place in order:
        at = [number for number, _ in parts].index(place)
        (_, mine), (_, base), (_, yours) = parts[at - 1:at + 2]
        least = min(least, as_number(merge_reach(base, mine, yours)))
        came = merge_texts(base, mine, yours)
        if came is None:
            return -1
        parts[at - 1:at + 2] = [[parts[at - 1][0], came]]
    return least


def ends_alike(one, other, distance):
    if len(one) < distance or len(other) < distance:
        return False
    return distance == 0 or one[-distance:] == other[-distance:]


def due_pairs(texts, classes, distance):
    """All pairs of beginnings, not one yet, that a rule makes one, by the words of the promise."""
    found = []
    for one, other in product(classes, repeat=2):
        if classes[one] == classes[other]:
            continue
        due = one in texts and other in texts and ends_alike(one, other, distance)
        if one and other and one[-1] == other[-1]:
            due = due or classes[one[:-1]] == classes[other[:-1]]
        for letter in range(3):
            if one + (letter,) in classes and other + (letter,) in classes:
                alike = classes[one + (letter,)] == classes[other + (letter,)]
                due = due or (alike and ends_alike(one, other, distance))
        if due:
            found.append((one, other))
    return found


def links_by_chance(texts, generator):
    """Links told by the words of the promise, any of the pairs that are due each time."""
    classes = {text[:cut]: text[:cut] for text in texts for cut in range(len(text) + 1)}
    links = []
    for distance in range(max(len(text) for text in texts), -1, -1):
        pairs = due_pairs(texts, classes, distance)
        while pairs:
            one, other = generator.choice(pairs)
            links.append((one, other, distance))
            gone = classes[other]
            classes = {front: classes[one] if classes[front] == gone else classes[front] for front in classes}
            pairs = due_pairs(texts, classes, distance)
    return tuple(links)


class DistancesTest(Case):

    def test_reaches_of_merges(self):
        seen = set()
        for base, mine, yours in product(texts_to(4, 2), repeat=3):
            reach = merge_reach(base, mine, yours)
            if base in (mine, yours):
                self.assertIsNone(reach)
            else:
                self.assertEqual(reach, len(merge_cuts(base, mine, yours)) - 1)
            seen.add(reach)
        self.assertEqual(seen, {None, -1, 0, 1, 2, 3})
        self.assertEqual(merge_reach([1, 2, 3], [4, 2, 3], [1, 2, 5]), 1)
        self.assertEqual(merge_reach((1,), (2,), (3,)), -1)

    def test_reaches_of_chains(self):
        generator = random.Random(31)
        seen = {}
        for _ in range(900):
            chain = random_chain(generator, 4, 3, 2)
            orders = permutations(range(1, len(chain), 2))
            best = max(reach_of_order(chain, order) for order in orders)
            reach = chain_reach(chain)
            self.assertEqual(as_number(reach), best, chain)
            seen[reach] = seen.get(reach, 0) + 1
        self.assertGreaterEqual(set(seen), {None, -1, 0, 1, 2})
        self.assertIsNone(chain_reach([[1, 2]]))
        self.assertIsNone(chain_reach(((1,), (2,), (2,))))
        self.assertEqual(chain_reach(((1,), (2,), (3,))), -1)
        self.assertEqual(chain_reach(((1, 2, 3), (4, 2, 3), (4, 2, 5))), 1)
        self.assertEqual(chain_reach(((1,) * 8, (1,) * 7) * 7 + ((1,) * 8,)), 7)

    def test_a_base_with_the_greatest_reach_goes_first(self):
        generator = random.Random(311)
        for _ in range(500):
            chain = random_chain(generator, 4, 3, 2)
            whole = as_number(chain_reach(chain))
            if whole == -1:
                continue
            least = ABOVE_ALL
            while len(chain) > 1:
                reaches = {at: as_number(merge_reach(chain[at], chain[at - 1], chain[at + 1]))
                           for at in range(1, len(chain), 2)}
                at = generator.choice([place for place in reaches if reaches[place] == max(reaches.values())])
                least = min(least, reaches[at])
                came = merge_texts(chain[at], chain[at - 1], chain[at + 1])
                chain = chain[:at - 1] + (came,) + chain[at + 2:]
            self.assertEqual(least, whole)

    def test_window_texts(self):
        self.assertEqual(window_texts([[1, 2], [1, 2, 3], [], (1, 2)], 2), ((1, 3), (1, 2, 4), (0,), (1, 3)))
        self.assertEqual(window_texts([(7, 5)], 0), ((0, 2, 1, 3),))
        self.assertEqual(window_texts([(2,), (), (1,)], 10 ** 20), ((2,), (0,), (1,)))
        generator = random.Random(312)
        for _ in range(300):
            versions = [tuple(generator.randrange(2) for _ in range(generator.randint(0, 5))) for _ in range(3)]
            distance = generator.randint(0, 4)
            rows = []
            for version in versions:
                row = [(0, version)]
                if len(version) >= distance:
                    row = [(1, version[:distance])]
                    row += [(2, version[at:at + distance + 1]) for at in range(len(version) - distance)]
                    row += [(3, version[len(version) - distance:])]
                rows.append(row)
            windows = sorted({window for row in rows for window in row})
            self.assertEqual(window_texts(versions, distance), tuple(tuple(map(windows.index, row)) for row in rows))

    def test_merges_of_window_texts(self):
        generator = random.Random(313)
        went = 0
        for _ in range(3000):
            base, mine, yours = (tuple(generator.randrange(2) for _ in range(generator.randint(1, 5))) for _ in range(3))
            if generator.random() < 0.7:
                cut = generator.randint(0, len(base))
                mine, yours = mine[:2] + base[cut:], base[:cut] + yours[:2]
            if base in (mine, yours):
                continue
            came = merge_texts(base, mine, yours)
            for distance in range(4):
                told = window_texts([base, mine, yours] + ([came] if came is not None else []), distance)
                goes = merge_reach(base, mine, yours) >= distance
                came_told = merge_texts(*told[:3])
                self.assertEqual(came_told is not None, goes)
                if goes:
                    went += 1
                    self.assertEqual(came_told, told[3])
        self.assertGreater(went, 500)

    def test_too_many_windows(self):
        versions = [(one, other) for one in range(6) for other in range(6)]
        self.assertEqual(len(window_texts(versions[:34], 3)), 34)
        several = [tuple(range(at, at + 3)) for at in range(0, 99, 3)]
        self.assertEqual(window_texts(several + [(5,)], 4)[-1], (2,))
        whole = [tuple(range(99))]
        self.assertEqual(max(window_texts(whole, 99)[0]), 1)
        self.assertEqual(len(set(window_texts(whole, 1)[0])), 100)
        # Of 98 unlike lines there are 100 unlike windows at the distance 0, of 99 there are too many.
        self.assertEqual(max(window_texts([tuple(range(98))], 0)[0]), 99)
        self.refuses(InvalidSize, "windows", window_texts, whole, 0)
        self.refuses(InvalidSize, "windows", window_texts, several + [(0, 99)], 1)
        self.refuses(InvalidSize, "windows", window_texts, [(one, other, 7) for one, other in product(range(12), range(12))], 9)

    def test_links(self):
        generator = random.Random(32)
        kinds = set()
        for _ in range(150):
            texts = random_lot(generator, 4, 3, 2)
            links = front_links(texts)
            self.assertIs(links_hold(texts, links), True)
            others = links_by_chance(texts, generator)
            self.assertIs(links_hold(texts, others), True)
            self.assertEqual([link[2] for link in links], [link[2] for link in others])
            kinds.add(len(links) > 0)
            for at, link in enumerate(links):
                self.assertIs(links_hold(texts, links[:at] + links[at + 1:]), False)
                self.assertIs(links_hold(texts, links[:at] + (link,) + links[at:]), False)
                for more in (-1, 1, 5, 10 ** 20):
                    changed = links[:at] + (link[:2] + (link[2] + more,),) + links[at + 1:]
                    self.assertIs(links_hold(texts, changed), False)
                turned = links[:at] + ((link[1], link[0], link[2]),) + links[at + 1:]
                self.assertIs(links_hold(texts, turned), True)
        self.assertEqual(kinds, {True, False})

    def test_any_links_by_the_words(self):
        generator = random.Random(321)
        held = 0
        for at in range(400):
            texts = random_lot(generator, 3, 3, 2)
            links = list(links_by_chance(texts, generator))
            if at % 2:
                generator.shuffle(links)
            else:
                fronts = sorted({text[:cut] for text in texts for cut in range(len(text) + 1)})
                number = generator.randrange(len(links) + 1)
                links[number:number + 1] = [(generator.choice(fronts), generator.choice(fronts), link[2])
                                            for link in links[number:number + 1]]
            right = True
            for number, (one, other, distance) in enumerate(links):
                classes = linked_classes(texts, links[:number], 0)
                due = {at: [pair for pair in due_pairs(texts, linked_classes(texts, links[:number], at), at)
                            if classes[pair[0]] != classes[pair[1]]] for at in range(5)}
                above = [at for at in range(4, -1, -1) if due[at]]
                right = right and bool(above) and distance == above[0] and (one, other) in due[distance]
            right = right and not due_pairs(texts, linked_classes(texts, links, 0), 0)
            self.assertIs(links_hold(texts, tuple(links)), right)
            held += right
        self.assertGreater(held, 10)

    def test_no_links(self):
        self.assertEqual(front_links([()]), ())
        self.assertEqual(front_links([(1, 2)]), ())
        self.assertIs(links_hold([(1, 2)], ()), True)
        self.assertIs(links_hold([(1,), (2,)], ()), False)
        self.assertEqual([link[2] for link in front_links([(1,), (2,)])], [0])

    def test_links_and_what_comes(self):
        generator = random.Random(322)
        tried = 0
        for _ in range(60):
            texts = random_lot(generator, 3, 3, 2)
            links = front_links(texts)
            for distance in range(4):
                classes = linked_classes(texts, links, distance)
                for one, other in product(classes, repeat=2):
                    if one == other:
                        continue
                    tails = [tail for tail in texts_to(4, 2) if all(leads_at(texts, links, distance, front + tail)
                                                                    for front in (one, other))]
                    alike = ends_alike(one, other, distance) and bool(tails)
                    self.assertEqual(classes[one] == classes[other], alike)
                found = come_at(texts, distance, 7, 25)
                if found is not None:
                    tried += 1
                    for text in texts_to(4, 2):
                        self.assertEqual(leads_at(texts, links, distance, text), text in found)
        self.assertGreater(tried, 150)

    def test_values_that_are_no_links(self):
        links = front_links(TOLD)
        self.assertGreater(len(links), 1)
        for wrong in (None, as_lists(links), list(links), links + ((), ), links + (links[0],), (), ((),), (1,),
                      (list(links[0]),) + links[1:], ((list(links[0][0]),) + links[0][1:],) + links[1:],
                      (links[0][:2],) + links[1:], (links[0] + (0,),) + links[1:], (links[0][:2] + (True,),) + links[1:],
                      (links[0][:2] + ("2",),) + links[1:], (((9,),) + links[0][1:],) + links[1:],
                      ((None,) + links[0][1:],) + links[1:], links[::-1]) + STRANGE:
            self.assertIs(links_hold(TOLD, wrong), False, wrong)

    def test_wrong_inputs(self):
        for wrong in STRANGE:
            for at in range(3):
                told = [(0,)] * 3
                told[at] = wrong
                self.refuses(InvalidText, at, merge_reach, *told)
                self.refuses(InvalidChain, at, chain_reach, told)
            self.refuses(InvalidVersions, 1, window_texts, [(), wrong], None)
            self.refuses(InvalidTexts, 1, front_links, [(), wrong])
            self.refuses(InvalidTexts, 1, links_hold, [(), wrong], None)
        for wrong in (None, True, 1, "a", (), [(0,), (0,)], [()] * 17, [()] * 16):
            self.refuses(InvalidChain, -1, chain_reach, wrong)
        for wrong in (None, True, 1, "a", (), []):
            self.refuses(InvalidVersions, -1, window_texts, wrong, None)
            self.refuses(InvalidTexts, -1, front_links, wrong)
            self.refuses(InvalidTexts, -1, links_hold, wrong, ())
        self.refuses(InvalidTexts, 1, front_links, [(0,), (0,)])
        self.refuses(InvalidTexts, 2, links_hold, [(0,), (1,), [1]], ())
        for wrong in (None, True, -1, "1", (1,)):
            self.refuses(InvalidSize, "distance", window_texts, [(at,) for at in range(34)], wrong)
            self.refuses(InvalidSize, "distance", window_texts, [(at, 99 - at) for at in range(60)], wrong)
