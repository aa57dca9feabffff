"""Promises [34] and [35]: fewest told versions at each distance, rising texts, reaches that occur, rings."""

import random
from itertools import combinations, product

from cancelsback.apart import apart_lot, fewest_apart, reach_steps, ring_apart, rising_texts
from cancelsback.distances import front_links, merge_reach
from cancelsback.errors import InvalidSize, InvalidTexts
from cancelsback.merges import merge_texts
from cancelsback.reaches import text_reach
from tests.support import Case, STRANGE, come_at, leads_at, linked_classes, random_lot, texts_to

CORNERS = [(1, 2, 3), (4, 2, 3), (1, 2, 5), (4, 2, 5)]


def all_lead(texts, told, distance):
    """Whether all these texts come of the told ones at the distance."""
    links = front_links(told)
    return all(leads_at(told, links, distance, text) for text in texts)


def same_comes(one, other, distance):
    return all_lead(one, other, distance) and all_lead(other, one, distance)


def counts_by_length(texts, distance, most):
    """How many texts of each length come at the distance, by letters that lead from place to place."""
    links = front_links(texts)
    classes = linked_classes(texts, links, distance)
    moves = {(classes[front[:-1]], front[-1]): classes[front] for front in classes if front}
    ends = {classes[text] for text in texts}
    places = {classes[()]: 1}
    counts = []
    for _ in range(most + 1):
        counts.append(sum(many for place, many in places.items() if place in ends))
        onward = {}
        for (place, _), end in moves.items():
            if place in places:
                onward[end] = onward.get(end, 0) + places[place]
        places = onward
    return counts


class ApartTest(Case):

    def test_fewest_of_small_lots(self):
        generator = random.Random(34)
        fewer = 0
        for _ in range(60):
            texts = random_lot(generator, 4, 4, 2)
            counts = fewest_apart(texts)
            longest = max(len(text) for text in texts)
            self.assertEqual(len(counts), longest + 1)
            self.assertEqual(counts, tuple(sorted(counts)))
            self.assertEqual(counts[-1], len(texts))
            for distance, count in enumerate(counts):
                classes = linked_classes(texts, front_links(texts), distance)
                ties = {(classes[front[:-1]], front[-1]) for front in classes if front}
                ends = {classes[text] for text in texts}
                self.assertEqual(count, len(ties) + len(ends) - len(set(classes.values())) + 1)
                lot = apart_lot(texts, distance)
                self.assertEqual(len(set(lot)), count)
                self.assertEqual(list(lot), sorted(lot, key=lambda text: (len(text), text)))
                self.assertTrue(same_comes(lot, texts, distance))
                fewer += count < len(texts)
        self.assertGreater(fewer, 15)

    def test_no_fewer_tell_the_same(self):
        generator = random.Random(341)
        tried = 0
        for _ in range(25):
            texts = random_lot(generator, 4, 3, 2)
            for distance, count in enumerate(fewest_apart(texts)):
                links = front_links(texts)
                known = [text for text in texts_to(4, 2) if leads_at(texts, links, distance, text)]
                for less in combinations(known, count - 1):
                    if less:
                        tried += 1
                        self.assertFalse(all_lead(texts, less, distance))
        self.assertGreater(tried, 200)

    def test_edges(self):
        self.assertEqual(fewest_apart(CORNERS), (3, 3, 4, 4))
        self.assertEqual(fewest_apart([[]]), (1,))
        self.assertEqual(fewest_apart([[1, 2]]), (1, 1, 1))
        self.assertEqual(fewest_apart([(0,), (0, 0), (0, 0, 0)]), (2, 2, 3, 3))
        self.assertEqual(apart_lot([(3, 1), (2,), ()], 10 ** 20), ((), (2,), (3, 1)))
        self.assertEqual(len(apart_lot(CORNERS, 1)), 3)
        self.assertEqual(apart_lot(CORNERS, 2), tuple(sorted(CORNERS)))

    def test_rising_texts(self):
        for distance, many in product(range(5), range(3, 9)):
            texts = rising_texts(distance, many)
            self.assertEqual(len(set(texts)), many)
            counts = fewest_apart(texts)
            self.assertGreater(len(counts), distance + 1)
            self.assertEqual(set(counts[:distance + 1]), {3})
            self.assertEqual(set(counts[distance + 1:]), {many})
            self.assertTrue(same_comes(apart_lot(texts, distance), texts, distance))
        self.assertEqual(len(rising_texts(7, 12)), 12)

    def test_rising_texts_by_the_words(self):
        for distance, many in ((0, 4), (0, 5), (1, 4), (1, 5), (2, 4)):
            texts = rising_texts(distance, many)
            self.assertTrue(any(all_lead(texts, three, distance) for three in combinations(texts, 3)))
            self.assertFalse(any(all_lead(texts, two, distance) for two in combinations(texts, 2)))
            for at in range(many):
                self.assertFalse(all_lead(texts, texts[:at] + texts[at + 1:], distance + 1))

    def test_reaches_that_occur(self):
        generator = random.Random(35)
        seen = set()
        for _ in range(60):
            texts = random_lot(generator, 3, 4, 2)
            steps = reach_steps(texts)
            self.assertEqual(list(steps), sorted(steps))
            firsts = {}
            for text in texts_to(6, 2):
                reach = text_reach(texts, text)
                if reach not in (None, -1) and reach not in firsts:
                    firsts[reach] = text
            for distance, text in steps:
                self.assertEqual(text_reach(texts, text), distance)
                self.assertEqual(firsts.get(distance, text), text)
                seen.add(distance)
            self.assertLessEqual(set(firsts), {distance for distance, _ in steps})
        self.assertGreaterEqual(seen, {0, 1, 2})
        self.assertEqual(reach_steps(CORNERS[:3]), ((1, (4, 2, 5)),))
        self.assertEqual(reach_steps(CORNERS), ())
        self.assertEqual(reach_steps([()]), ())
        self.assertEqual(reach_steps([(0,), (0, 0)]), ((0, ()), (1, (0, 0, 0))))

    def test_rings(self):
        generator = random.Random(351)
        seen = set()
        for _ in range(80):
            texts = random_lot(generator, 4, 4, 2)
            ring = ring_apart(texts)
            fronts = len({text[:cut] for text in texts for cut in range(len(text) + 1)})
            seen.add(None if ring is None else ring[0])
            above = 0
            if ring is not None:
                distance, head, turn, tail = ring
                above = distance + 1
                self.assertNotEqual(turn, ())
                links = front_links(texts)
                for times in range(4):
                    self.assertTrue(leads_at(texts, links, distance, head + turn * times + tail))
            # Endlessly many come exactly if one comes that has as many letters as there are beginnings, or more.
            self.assertEqual(sum(counts_by_length(texts, above, 2 * fronts)[fronts:]), 0)
        self.assertGreaterEqual(seen, {None, 0, 1, 2})
        self.assertIsNone(ring_apart(CORNERS))
        self.assertIsNone(ring_apart([()]))
        self.assertIsNone(ring_apart([(1, 2)]))
        self.assertEqual(ring_apart([(0,) * 5, (0,) * 6])[0], 5)
        self.assertEqual(ring_apart([[], [0]])[0], 0)

    def test_nothing_new_comes(self):
        generator = random.Random(352)
        closed = 0
        for _ in range(150):
            texts = random_lot(generator, 4, 3, 2)
            for distance in range(4):
                news = [came for base, mine, yours in product(texts, repeat=3)
                        for came in [merge_texts(base, mine, yours)] if came is not None and came not in texts
                        and merge_reach(base, mine, yours) >= distance]
                more = [step for step in reach_steps(texts) if step[0] >= distance]
                self.assertEqual(news == [], more == [])
                closed += news == []
                if not news:
                    self.assertEqual(sorted(come_at(texts, distance, 9, 60)), sorted(texts))
        self.assertGreater(closed, 100)

    def test_wrong_inputs(self):
        for wrong in STRANGE:
            for function, more in ((fewest_apart, ()), (apart_lot, (None,)), (reach_steps, ()), (ring_apart, ())):
                self.refuses(InvalidTexts, 1, function, [(), wrong], *more)
        for wrong in (None, 1, True, (), [], "a"):
            for function, more in ((fewest_apart, ()), (apart_lot, (None,)), (reach_steps, ()), (ring_apart, ())):
                self.refuses(InvalidTexts, -1, function, wrong, *more)
        self.refuses(InvalidTexts, 1, apart_lot, [(1,), [1]], None)
        for wrong in (None, True, -1, "1", (1,)):
            self.refuses(InvalidSize, "distance", apart_lot, [()], wrong)
            self.refuses(InvalidSize, "distance", rising_texts, wrong, None)
        for wrong in (None, True, -1, 0, 2, "3", (3,)):
            self.refuses(InvalidSize, "many", rising_texts, 10 ** 20, wrong)
