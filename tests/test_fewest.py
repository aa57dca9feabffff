"""Promises [22] to [26]: fewest told versions, first and last ways, ears, the least lot, rows, stand-ins."""

import random
from itertools import product

from cancelsback.coming import can_come, nth_coming, row_text
from cancelsback.errors import InvalidText, InvalidTexts, InvalidWeb, MergeError, Refused
from cancelsback.fewest import ear_texts, fewest_count, first_ways, last_ways, least_lot, lot_holds, lot_paper
from cancelsback.fewest import needless_texts, stand_ins, version_row
from cancelsback.texts import text_word
from cancelsback.webs import Web, plain_web, reads_text, told_web
from cancelsback.words import join_words, undo_word
from tests.support import Case, STRANGE, random_lot, texts_to
from tests.test_webs import random_web

TOLD = [(0, 1), (0, 2, 1), (0, 2, 2, 1)]
WEB = told_web(TOLD)
FEW = [(0,), (0, 0)]


def by_length(texts):
    return tuple(sorted(texts, key=lambda text: (len(text), text)))


def row_word(texts, row):
    word = ()
    for at, place in enumerate(row):
        part = text_word(texts[place])
        word = join_words(word, undo_word(part) if at % 2 else part)
    return word


def rows_to(length, many):
    """All rows of at most this length with no version beside itself."""
    rows = []
    for size in range(1, length + 1, 2):
        for row in product(range(many), repeat=size):
            if all(one != other for one, other in zip(row, row[1:])):
                rows.append(row)
    return rows


def part_of(web, texts):
    """The places and ties of the web that the texts' folded web is, None if it is no part of it."""
    told = told_web(texts)
    places = {}
    for place, way in enumerate(first_ways(told)):
        image = web.start
        for letter in way:
            image = None if image is None else web.step_ahead(image, letter)
        places[place] = image
    if None in places.values() or len(set(places.values())) < told.places or places[told.end] != web.end:
        return None
    ties = {(places[begin], letter, places[end]) for begin, letter, end in told.ties}
    return ties if ties <= set(web.ties) else None


class CountTest(Case):

    def test_counts(self):
        self.assertEqual(fewest_count(WEB), 2)
        self.assertEqual(fewest_count(Web(1, [], 0, 0)), 1)
        self.assertEqual(fewest_count(Web(1, [(0, 1, 0), (0, 2, 0)], 0, 0)), 3)
        for function in (fewest_count, first_ways, last_ways, least_lot):
            for web in STRANGE + (TOLD,):
                self.refuses(InvalidWeb, -1, function, web)

    def test_no_fewer_tell_a_web(self):
        generator = random.Random(221)
        smaller = 0
        for _ in range(500):
            texts = random_lot(generator, 5, 5, 2)
            count = fewest_count(told_web(texts))
            self.assertLessEqual(count, len(texts))
            smaller += count < len(texts)
            if len(texts) > 1:
                self.assertLessEqual(count, fewest_count(told_web(texts[1:])) + 1)
        self.assertGreater(smaller, 100)

    def test_one_more_may_make_it_smaller(self):
        texts = [(), (0,), (1, 1), (1, 0, 1)]
        self.assertEqual(fewest_count(told_web(texts)), 4)
        self.assertEqual(fewest_count(told_web(texts + [(1,)])), 3)
        self.assertEqual(fewest_count(told_web(texts + [(2,)])), 5)

    def test_ways(self):
        generator = random.Random(222)
        texts = by_length(texts_to(7, 2))
        for _ in range(100):
            web = random_web(generator, 3, 5)
            heads, tails = first_ways(web), last_ways(web)
            self.assertEqual(len(heads), web.places)
            self.assertEqual(len(tails), web.places)
            for place in range(web.places):
                ahead = [text for text in texts if self.place_from(web, web.start, text) == place]
                behind = [text for text in texts if self.place_from(web, place, text) == web.end]
                self.assertEqual(heads[place], ahead[0])
                self.assertEqual(tails[place], behind[0])

    def place_from(self, web, place, text):
        for letter in text:
            place = web.step_ahead(place, letter)
            if place is None:
                return None
        return place


class EarsTest(Case):

    def check_ears(self, web, texts):
        ears = ear_texts(web, texts)
        self.assertEqual(len(ears), fewest_count(web) - (fewest_count(told_web(texts)) if texts else 0))
        told = list(texts)
        for ear in ears:
            before = fewest_count(told_web(told)) if told else 0
            self.assertTrue(reads_text(web, ear))
            told.append(ear)
            self.assertIsNotNone(part_of(web, told))
            self.assertEqual(fewest_count(told_web(told)), before + 1)
        self.assertEqual(told_web(told), plain_web(web))

    def test_small_ones(self):
        generator = random.Random(231)
        kinds = set()
        for _ in range(300):
            web = random_web(generator, generator.randint(1, 5), 4)
            self.check_ears(web, ())
            lot = least_lot(web)
            texts = generator.sample(lot, generator.randint(1, len(lot)))
            part = part_of(web, texts)
            kinds.add(part is None)
            if part is None:
                self.refuses(Refused, -1, ear_texts, web, texts)
            else:
                self.check_ears(web, texts)
                self.check_ears(web, texts + list(ear_texts(web, texts))[:1])
        self.assertEqual(kinds, {True, False})

    def test_some(self):
        self.assertEqual(ear_texts(Web(1, [], 0, 0), ()), ((),))
        self.assertEqual(ear_texts(Web(1, [], 0, 0), [()]), ())
        self.assertEqual(ear_texts(WEB, []), ((0, 1), (0, 2, 1)))
        self.assertEqual(ear_texts(WEB, [(0, 1), (0, 2, 1)]), ())
        self.assertEqual(ear_texts(WEB, [(0, 1)]), ((0, 2, 1),))

    def test_no_parts(self):
        # Not read; unlike places as one place; another end.
        for texts in ([(0, 3, 1)], [(0, 2, 1)], [(0,)], [(0, 1), (1,)], [(5,), (6,)]):
            self.refuses(Refused, -1, ear_texts, WEB, texts)
        self.refuses(Refused, -1, ear_texts, Web(1, [(0, 0, 0)], 0, 0), [(0,)])
        self.assertEqual(ear_texts(Web(1, [(0, 0, 0)], 0, 0), [(), (0,)]), ())

    def test_wrong_inputs(self):
        self.refuses(InvalidWeb, -1, ear_texts, None, None)
        for texts in (None, 3, "a"):
            self.refuses(InvalidTexts, -1, ear_texts, WEB, texts)
        for wrong in STRANGE + ((0, 1),):
            if wrong != "":
                self.refuses(InvalidTexts, 1, ear_texts, WEB, [(0, 1), wrong, None])


class LeastTest(Case):

    def test_small_ones(self):
        generator = random.Random(241)
        found = 0
        for _ in range(400):
            web = random_web(generator, 4, 5)
            lot = least_lot(web)
            self.assertEqual(lot, by_length(lot))
            self.assertEqual(len(set(lot)), fewest_count(web))
            self.assertEqual(told_web(lot), plain_web(web))
            self.check_each_tie(web, lot)
            found += self.check_other_lots(generator, web, lot)
        self.assertGreater(found, 100)

    def check_each_tie(self, web, lot):
        heads, tails = first_ways(web), last_ways(web)
        last = {(web.step_back(place, way[-1]), way[-1], place) for place, way in enumerate(heads) if way}
        expected = [heads[begin] + (letter,) + tails[end] for begin, letter, end in web.ties if (begin, letter, end) not in last]
        self.assertEqual(by_length([heads[web.end]] + expected), lot)

    def check_other_lots(self, generator, web, lot):
        """Each text of another lot of as few is at least as long, put by length; the longest one of any lot, too."""
        found = 0
        every = []
        for number in range(25):
            try:
                every.append(nth_coming(lot, number))
            except MergeError:
                break
        for _ in range(20):
            many = generator.randint(len(lot), len(lot) + 1)
            if many > len(every):
                break
            other = by_length(generator.sample(every, many))
            if told_web(other) == plain_web(web):
                self.assertGreaterEqual(len(other[-1]), len(lot[-1]))
                if many == len(lot):
                    found = 1
                    self.assertTrue(all(len(one) >= len(two) for one, two in zip(other, lot)))
        return found

    def test_some(self):
        self.assertEqual(least_lot(WEB), ((0, 1), (0, 2, 1)))
        self.assertEqual(least_lot(Web(1, [], 0, 0)), ((),))
        self.assertEqual(least_lot(Web(1, [(0, 7, 0), (0, 3, 0)], 0, 0)), ((), (3,), (7,)))
        self.assertEqual(least_lot(Web(2, [(1, 0, 0), (0, 0, 1), (1, 2, 0)], 1, 0)), ((0,), (2,), (0, 0, 0)))


class LotsTest(Case):

    def test_needless(self):
        generator = random.Random(251)
        self.assertEqual(needless_texts([(5,)]), ())
        for _ in range(300):
            texts = random_lot(generator, 5, 4, 2)
            expected = [text for at, text in enumerate(texts)
                        if len(texts) > 1 and can_come(texts[:at] + texts[at + 1:], text)]
            self.assertEqual(needless_texts(texts), by_length(expected))

    def test_none_is_needless_though_fewer_tell_the_same(self):
        texts = [(0,) * length for length in (45, 10, 0, 24)]
        self.assertEqual(needless_texts(texts), ())
        self.assertEqual(told_web(texts), told_web([(), (0,)]))
        self.assertEqual(fewest_count(told_web(texts)), 2)
        self.assertIs(lot_holds(texts, lot_paper(texts)), True)

    def test_small_ones(self):
        generator = random.Random(252)
        words = set()
        for _ in range(400):
            texts = random_lot(generator, 6, 6, generator.choice((1, 2, 3)))
            paper = lot_paper(texts)
            words.add(paper[0])
            self.assertIs(lot_holds(texts, paper), True)
            if paper[0] == "fewest":
                self.assertEqual(paper[1], told_web(texts))
                self.assertEqual(fewest_count(paper[1]), len(texts))
                self.check_rows_once(texts[:3])
            else:
                self.assertLess(fewest_count(told_web(texts)), len(texts))
                _, row, other = paper
                self.assertNotEqual(row, other)
                self.assertEqual(row_word(texts, row), row_word(texts, other))
                for part in (row, other):
                    self.assertEqual(len(part) % 2, 1)
                    self.assertTrue(all(one != two for one, two in zip(part, part[1:])))
        self.assertEqual(words, {"fewest", "twice"})

    def check_rows_once(self, texts):
        """What is left of a lot as few as can be is one, too: no two rows have one word."""
        self.assertEqual(lot_paper(texts)[0], "fewest")
        words = [row_word(texts, row) for row in rows_to(5, len(texts))]
        self.assertEqual(len(set(words)), len(words))

    def test_papers_changed(self):
        self.assertIs(lot_holds(FEW, ("fewest", told_web(FEW))), True)
        web = Web(2, [(0, 0, 1), (1, 0, 0)], 0, 1)
        for value in (("few", told_web(FEW)), ("fewest", web), ("fewest",), ["fewest", told_web(FEW)], ("fewest", None), told_web(FEW),
                      ("twice", (0,), (1,)), ("twice", (0,), (0,)), ("fewest", told_web(FEW), ())):
            self.assertIs(lot_holds(FEW, value), False)
        self.assertIs(lot_holds(TOLD, ("fewest", WEB)), False)
        good = ("twice", (1, 0, 1), (2,))
        self.assertIs(lot_holds(TOLD, good), True)
        for value in (("twice", (1, 0, 1), (1, 0, 1)), ("twice", (2,), (1,)), ("twice", (1, 0, 1, 1, 1), (2,)),
                      ("twice", [1, 0, 1], (2,)), ("twice", (1, False, 1), (2,)), ("twice", (1, 0, 1), (3,)),
                      ("twice", (1, 0, 1)), ("twice", (1, 0, 1), (2,), ()), list(good), ("twice", (), (2,)),
                      ("twice", (1, 0), (2, 1)), ("fewest", (1, 0, 1), (2,)), ("twice", (1, 0, 1), (2, 2, 2))):
            self.assertIs(lot_holds(TOLD, value), False)
        for value in STRANGE:
            for texts in (FEW, TOLD):
                self.assertIs(lot_holds(texts, value), False)
                self.assertIs(lot_holds(texts, ("twice", value, (2,))), False)

    def test_wrong_inputs(self):
        for function, more in ((needless_texts, 0), (lot_paper, 0), (lot_holds, 1), (version_row, 1), (stand_ins, 1)):
            for texts in (None, (), 3, "a"):
                self.refuses(InvalidTexts, -1, function, texts, *[None] * more)
            for wrong in STRANGE + ((2,),):
                if wrong != "":
                    self.refuses(InvalidTexts, 1, function, [(2,), wrong, None], *[None] * more)


class StandInsTest(Case):

    def few_lots(self, seed, many, versions=4, length=4):
        generator = random.Random(seed)
        found = 0
        while found < many:
            texts = random_lot(generator, versions, length, generator.choice((1, 2, 2, 3)))
            if lot_paper(texts)[0] == "fewest":
                found += 1
                yield texts

    def test_rows(self):
        came = set()
        for texts in self.few_lots(261, 150):
            rows = {row_word(texts, row): row for row in rows_to(5, len(texts))}
            for text in texts_to(4, 3):
                row = version_row(texts, text)
                came.add(row is None)
                self.assertEqual(row is None, not can_come(texts, text))
                if row is not None:
                    self.assertEqual(row_text(texts, row), text)
                    self.assertTrue(all(one != two for one, two in zip(row, row[1:])))
                    self.assertEqual(rows.get(text_word(text), row), row)
                    self.assertEqual(text_word(text) in rows, len(row) <= 5)
        self.assertEqual(came, {True, False})

    def test_stand_ins(self):
        sizes = set()
        for texts in self.few_lots(262, 80, 4, 3):
            web = told_web(texts)
            for number in range(12):
                try:
                    text = nth_coming(texts, number)
                except MergeError:
                    break
                expected = []
                for at in range(len(texts)):
                    others = texts[:at] + texts[at + 1:]
                    if text not in others and told_web(others + [text]) == web:
                        expected.append(at)
                self.assertEqual(stand_ins(texts, text), tuple(expected))
                row = version_row(texts, text)
                self.assertEqual(expected, [at for at in range(len(texts)) if row.count(at) == 1])
                sizes.add(len(expected))
        self.assertLessEqual({0, 1, 2, 3}, sizes)

    def test_some(self):
        self.assertEqual(version_row(FEW, (0, 0, 0)), (1, 0, 1))
        self.assertEqual(version_row(FEW, ()), (0, 1, 0))
        self.assertEqual(stand_ins(FEW, (0, 0, 0)), (0,))
        self.assertEqual(stand_ins(FEW, (0,)), (0,))
        self.assertEqual(version_row([(1,)], (1,)), (0,))
        self.assertIsNone(version_row([(1,)], (1, 1)))
        self.assertEqual(stand_ins([(1,)], (1, 1)), ())
        self.assertEqual(stand_ins([(1,)], ()), ())
        self.assertEqual(version_row([()], ()), (0,))

    def test_greatest(self):
        for texts in self.few_lots(263, 20, 6, 6):
            for number in (1, 40, 10 ** 4):
                try:
                    text = nth_coming(texts, number)
                except MergeError:
                    break
                self.assertEqual(row_text(texts, version_row(texts, text)), text)

    def test_wrong_inputs(self):
        for function in (version_row, stand_ins):
            for text in STRANGE:
                self.refuses(InvalidText, -1, function, FEW, text)
                self.refuses(InvalidText, -1, function, TOLD, text)
            self.refuses(Refused, -1, function, TOLD, (0, 1))
            self.refuses(Refused, -1, function, TOLD, (9,))
