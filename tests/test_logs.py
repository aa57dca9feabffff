"""Promises [49] and [52]: needed versions, lots that bring a text, lengths for lots, joined webs, hidden ones, formats."""

import random
from itertools import combinations, product

from cancelsback.coming import can_come
from cancelsback.errors import InvalidLots, InvalidSize, InvalidText, InvalidTexts, InvalidWeb, Refused
from cancelsback.fewest import fewest_count
from cancelsback.logs import (bringing_lots, fewest_hidden, joined_webs, least_format, lots_lengths, needed_texts)
from cancelsback.webs import Web, plain_web, reads_text, told_web
from tests.support import Case, STRANGE, folded_reader, random_lot, texts_to


def parts_of(numbers):
    return [part for many in range(1, len(numbers) + 1) for part in combinations(numbers, many)]


def all_lots(many):
    """All tuples of lots of two or more numbers, none within another one."""
    subsets = [part for part in parts_of(range(many)) if len(part) > 1]
    found = [()]
    for subset in subsets:
        found += [lots + (subset,) for lots in found if not any(set(lot) <= set(subset) for lot in lots)]
    return found


def webs_by_trying(web):
    """All plain webs by trying every way to number what places are made one."""
    found = []
    for row in product(range(web.places), repeat=web.places):
        many = max(row) + 1
        if len(set(row)) < many:
            continue
        ties = {(row[begin], letter, row[end]) for begin, letter, end in web.ties}
        ahead = {(begin, letter) for begin, letter, _ in ties}
        behind = {(letter, end) for _, letter, end in ties}
        if len(ahead) == len(ties) == len(behind):
            joined = plain_web(Web(many, sorted(ties), row[web.start], row[web.end]))
            if joined not in found:
                found.append(joined)
    return sorted(found, key=lambda joined: (joined.places, joined.ties, joined.end))


def small_webs(places, letters):
    """All webs of so many places and letters."""
    rows = list(product([None] + list(range(places)), repeat=places))
    rows = [row for row in rows if len({end for end in row if end is not None}) == sum(end is not None for end in row)]
    for moves in product(rows, repeat=letters):
        ties = [(begin, letter, end) for letter, row in enumerate(moves) for begin, end in enumerate(row) if end is not None]
        for start, end in product(range(places), repeat=2):
            try:
                yield Web(places, ties, start, end)
            except InvalidWeb:
                pass


class LogsTest(Case):

    def test_needed_texts(self):
        generator = random.Random(49)
        told = 0
        for _ in range(200):
            texts = random_lot(generator, 4, 3, 2)
            reads = folded_reader(texts)
            for came in texts_to(3, 2):
                if not reads(came):
                    self.refuses(Refused, -1, needed_texts, texts, came)
                    continue
                needed = [text for at, text in enumerate(texts)
                          if len(texts) == 1 or not folded_reader(texts[:at] + texts[at + 1:])(came)]
                self.assertEqual(needed_texts(texts, came), tuple(sorted(needed)))
                told += len(needed) > 0
        self.assertGreater(told, 200)
        self.assertEqual(needed_texts([[1, 2]], [1, 2]), ((1, 2),))
        self.assertEqual(needed_texts([(2, 1), (2, 3, 1), (0,)], (2, 3, 3, 1)), ((2, 1), (2, 3, 1)))
        self.assertEqual(needed_texts([(0,), (0, 0), (0, 0, 0)], (0, 0, 0)), ())

    def test_bringing_lots(self):
        generator = random.Random(491)
        several = 0
        for _ in range(120):
            texts = random_lot(generator, 4, 3, 2)
            for came in texts_to(2, 2):
                bring = {part: folded_reader([texts[at] for at in part])(came) for part in parts_of(range(len(texts)))}
                least = [part for part in bring if bring[part]
                         and not any(bring[less] for less in parts_of(part) if less != part)]
                self.assertEqual(bringing_lots(texts, came), tuple(sorted(least)))
                several += len(least) > 1
        self.assertGreater(several, 20)
        self.assertEqual(bringing_lots([(1,), (2,)], (3,)), ())
        self.assertEqual(bringing_lots([(0,)], (0,)), ((0,),))
        self.assertEqual(bringing_lots([(0,), (0, 0), (1,), (0, 0, 0)], (0, 0, 0)), ((0, 1), (3,)))
        self.assertEqual(bringing_lots([(at,) for at in range(6)], (5,)), ((5,),))

    def test_lengths_for_all_lots(self):
        for many in range(1, 5):
            for lots in all_lots(many):
                lengths, length = lots_lengths(many, lots)
                self.assertEqual((len(set(lengths)), len(lengths)), (many, many))
                self.assertGreaterEqual(min(lengths + (length,)), 0)
                for part in parts_of(range(many)):
                    holds = any(set(lot) <= set(part) for lot in lots)
                    self.assertIs(can_come([(0,) * lengths[at] for at in part], (0,) * length), holds)
                texts = [(0,) * one for one in lengths]
                self.assertEqual(bringing_lots(texts, (0,) * length), tuple(sorted(lots)))

    def test_lots_in_other_orders(self):
        for lots in (((2, 3), (0, 1)), [[1, 3], [0, 2, 3]], ((0, 1, 2, 3),), []):
            lengths, length = lots_lengths(4, lots)
            found = bringing_lots([(7,) * one for one in lengths], (7,) * length)
            self.assertEqual(found, tuple(sorted(tuple(lot) for lot in lots)))

    def test_joined_webs(self):
        generator = random.Random(52)
        many = set()
        for _ in range(60):
            web = told_web(random_lot(generator, 2, 4, 2))
            if web.places > 5:
                continue
            joined = joined_webs(web)
            self.assertEqual(list(joined), webs_by_trying(web))
            self.assertIn(plain_web(web), joined)
            many.add(len(joined))
        self.assertGreater(len(many), 5)
        turned = Web(3, [(2, 0, 1), (1, 1, 0)], 2, 0)
        self.assertEqual(list(joined_webs(turned)), webs_by_trying(turned))
        self.assertEqual(len(joined_webs(told_web([(0, 1, 2, 3, 4, 5)]))), 877)
        self.assertEqual(joined_webs(Web(1, [], 0, 0)), (Web(1, [], 0, 0),))
        self.assertEqual(joined_webs(Web(1, [(0, 3, 0)], 0, 0)), (Web(1, [(0, 3, 0)], 0, 0),))

    def test_joined_webs_are_what_any_web_uses(self):
        webs = list(small_webs(2, 2)) + list(small_webs(1, 2))
        generator = random.Random(521)
        for _ in range(40):
            texts = random_lot(generator, 3, 3, 2)
            told = told_web(texts)
            if told.places > 7:
                continue
            joined = joined_webs(told)
            for web in webs:
                if all(reads_text(web, text) for text in texts):
                    used = set()
                    for text in texts:
                        place = web.start
                        for letter in text:
                            end = web.step_ahead(place, letter)
                            used.add((place, letter, end))
                            place = end
                    numbers = {place: at for at, place in enumerate(sorted({web.start} | {tie[2] for tie in used}))}
                    part = Web(len(numbers), [(numbers[begin], letter, numbers[end]) for begin, letter, end in used],
                               numbers[web.start], numbers[web.end])
                    self.assertIn(plain_web(part), joined)

    def test_fewest_hidden(self):
        generator = random.Random(522)
        less = 0
        for _ in range(60):
            texts = random_lot(generator, 6, 3, 2)
            if told_web(texts).places > 7:
                continue
            number, lot = fewest_hidden(texts)
            self.assertEqual(len(set(lot)), number)
            self.assertTrue(all(can_come(lot, text) for text in texts))
            self.assertEqual(number, min(fewest_count(web) for web in joined_webs(told_web(texts))))
            less += number < len(texts)
            if number > 1:
                for fewer in combinations(texts_to(3, 2), number - 1):
                    if number < 4:
                        self.assertFalse(all(can_come(fewer, text) for text in texts))
        self.assertGreater(less, 10)
        self.assertEqual(fewest_hidden([[1, 2, 3]]), (1, ((1, 2, 3),)))
        self.assertEqual(fewest_hidden([()]), (1, ((),)))
        self.assertEqual(fewest_hidden([(0,), (0, 0, 0, 0), (0,) * 6])[0], 2)

    def test_least_format(self):
        generator = random.Random(523)
        webs = {places: list(small_webs(places, 2)) for places in (1, 2, 3)}
        kinds = {}
        for _ in range(120):
            good, bad = random_lot(generator, 3, 3, 2), random_lot(generator, 3, 3, 2)
            if told_web(good).places > 7:
                continue
            kind, told = least_format(good, bad)
            reads = folded_reader(good)
            if any(reads(text) for text in bad):
                self.assertEqual((kind, told), ("comes", [reads(text) for text in bad].index(True)))
                kinds["comes"] = kinds.get("comes", 0) + 1
                continue
            self.assertEqual(kind, "web")
            kinds[told.places] = kinds.get(told.places, 0) + 1
            self.assertTrue(all(reads_text(told, text) for text in good))
            self.assertFalse(any(reads_text(told, text) for text in bad))
            for places in range(1, min(told.places, 4)):
                for web in webs[places]:
                    fits = all(reads_text(web, text) for text in good) and not any(reads_text(web, text) for text in bad)
                    self.assertFalse(fits)
        self.assertGreaterEqual(set(kinds), {"comes", 1, 2, 3})
        self.assertEqual(least_format([[0]], [[1], [0]]), ("comes", 1))
        self.assertEqual(least_format([()], [(1,)]), ("web", Web(1, [], 0, 0)))

    def test_wrong_texts(self):
        for wrong in STRANGE:
            self.refuses(InvalidTexts, 1, needed_texts, [(), wrong], None)
            self.refuses(InvalidTexts, 1, bringing_lots, [(), wrong], None)
            self.refuses(InvalidTexts, 1, fewest_hidden, [(), wrong])
            self.refuses(InvalidTexts, 1, least_format, [(), wrong], None)
            self.refuses(InvalidTexts, 1, least_format, [()], [(), wrong])
            self.refuses(InvalidText, -1, needed_texts, [()], wrong)
            self.refuses(InvalidText, -1, bringing_lots, [(at,) for at in range(7)], wrong)
        for wrong in (None, 1, True, (), [], "a"):
            self.refuses(InvalidTexts, -1, needed_texts, wrong, None)
            self.refuses(InvalidTexts, -1, bringing_lots, wrong, None)
            self.refuses(InvalidTexts, -1, fewest_hidden, wrong)
            self.refuses(InvalidTexts, -1, least_format, wrong, None)
            self.refuses(InvalidTexts, -1, least_format, [tuple(range(10))], wrong)
        self.refuses(InvalidTexts, 2, bringing_lots, [(), (1,), [1]], ())
        self.refuses(InvalidTexts, 1, least_format, [()], [(1,), [1]])
        self.refuses(Refused, -1, needed_texts, [(1,), (2,)], (3,))

    def test_wrong_sizes_and_lots(self):
        self.refuses(InvalidSize, "texts", bringing_lots, [(at,) for at in range(7)], (0,))
        for wrong in (None, True, 0, 5, -1, "2", (2,)):
            self.refuses(InvalidSize, "many", lots_lengths, wrong, None)
        for wrong in (None, 1, True, "a"):
            self.refuses(InvalidLots, -1, lots_lengths, 2, wrong)
        for at, wrong in ((0, [()]), (0, [(0,)]), (0, [(0, 0)]), (0, [(1, 0)]), (0, [(0, 3)]), (0, [(0, True)]), (0, [None]),
                          (0, [(-1, 0)]), (0, ["01"]), (1, [(0, 1), (0, 1)]), (1, [(0, 1), (0, 1, 2)]), (1, [(0, 1, 2), (1, 2)]),
                          (2, [(0, 1), (1, 2), (0, 1)]), (1, [(0, 1), 5]), (0, [(0, 1, 1)]), (0, [(0, "1")])):
            self.refuses(InvalidLots, at, lots_lengths, 3, wrong)
        self.refuses(InvalidLots, 0, lots_lengths, 1, [(0, 1)])
        self.assertEqual(len(lots_lengths(1, ())[0]), 1)

    def test_webs_of_too_many_places(self):
        for wrong in (None, 1, True, (), "web"):
            self.refuses(InvalidWeb, -1, joined_webs, wrong)
        for many in (8, 9, 10):
            text = tuple(range(many - 1))
            self.refuses(InvalidSize, "places", joined_webs, told_web([text]))
            self.refuses(InvalidSize, "places", fewest_hidden, [text])
            self.refuses(InvalidSize, "places", least_format, [text], [text])
        self.assertEqual(least_format([tuple(range(6))], [tuple(range(6))]), ("comes", 0))
        self.assertEqual(fewest_hidden([tuple(range(6))]), (1, (tuple(range(6)),)))
