"""Promises [7] to [10]: webs, told webs and their folding, machines, enough texts, the first text of just one web."""

import random

from cancelsback.coming import can_come
from cancelsback.errors import InvalidEnds, InvalidLetter, InvalidPlace, InvalidSize, InvalidText, InvalidTexts
from cancelsback.errors import InvalidTies, InvalidWeb, InvalidWord
from cancelsback.fewest import first_ways, last_ways
from cancelsback.webs import Web, enough_texts, fold_steps, folded_web, folds_hold, plain_web, reads_text, told_web
from cancelsback.webs import unlike_text, word_end
from cancelsback.words import strike_out
from tests.support import Case, STRANGE, folded_reader, random_lot, texts_to

TOLD = [(0, 1), (0, 2, 1), (0, 2, 2, 1)]
WEB = Web(3, [(0, 0, 1), (1, 2, 1), (1, 1, 2)], 0, 2)
NO_NUMBERS = (None, True, -1, "1", (), [0])


def random_web(generator, texts=3, length=4, letters=2):
    """A web that some told versions make, its places numbered anyhow."""
    web = told_web(random_lot(generator, texts, length, letters))
    numbers = list(range(web.places))
    generator.shuffle(numbers)
    ties = [(numbers[begin], letter, numbers[end]) for begin, letter, end in web.ties]
    generator.shuffle(ties)
    return Web(web.places, ties, numbers[web.start], numbers[web.end])


def leads(ties, starts, text):
    """The places to which a text leads along any ties."""
    places = set(starts)
    for letter in text:
        places = {end for begin, other, end in ties if begin in places and other == letter}
    return places


def random_machine(generator, most=5, letters=2):
    places = generator.randint(1, most)
    every = [(begin, letter, end) for begin in range(places) for letter in range(letters) for end in range(places)]
    ties = generator.sample(every, min(len(every), generator.randint(0, 8)))
    ends = generator.sample(range(places), generator.randint(1, places))
    return places, ties, generator.randrange(places), ends


def all_fold_ways(generator, texts):
    """Some order of all pairs that are due, told by trying all pairs of beginnings."""
    fronts = sorted({text[:cut] for text in texts for cut in range(len(text) + 1)})
    classes = {front: front for front in fronts}
    letters = {letter for text in texts for letter in text}
    steps = []
    while True:
        due = []
        for one in fronts:
            for other in fronts:
                if classes[one] != classes[other]:
                    behind = one[-1:] == other[-1:] and one and other and classes[one[:-1]] == classes[other[:-1]]
                    ahead = any(one + (x,) in classes and other + (x,) in classes
                                and classes[one + (x,)] == classes[other + (x,)] for x in letters)
                    if behind or ahead or (one in texts and other in texts):
                        due.append((one, other))
        if not due:
            return tuple(steps)
        one, other = generator.choice(due)
        steps.append((one, other))
        gone = classes[other]
        for front in fronts:
            if classes[front] == gone:
                classes[front] = classes[one]


class WebTest(Case):

    def test_attributes(self):
        web = Web(3, [[1, 2, 1], (0, 0, 1), [1, 1, 2]], 0, 2)
        self.assertEqual((web.places, web.ties, web.start, web.end), (3, ((0, 0, 1), (1, 1, 2), (1, 2, 1)), 0, 2))
        self.assertEqual(web, WEB)
        self.assertEqual(Web(end=0, start=0, ties=(), places=1).ties, ())

    def test_equality(self):
        ties = [(0, 0, 1), (1, 0, 0)]
        web = Web(2, ties, 0, 1)
        for other in (Web(2, ties, 1, 0), Web(2, ties, 0, 0), Web(2, ties, 1, 1), Web(2, ties[:1], 0, 1), Web(1, [], 0, 0)):
            self.assertFalse(web == other)
            self.assertTrue(web != other)
        for other in ((2, tuple(ties), 0, 1), None, "web", 2, object()):
            self.assertFalse(web == other)

    def test_objects_are_no_sequences(self):
        self.assertRaises(TypeError, iter, WEB)
        self.assertRaises(TypeError, len, WEB)

    def test_steps(self):
        self.assertEqual([WEB.step_ahead(1, letter) for letter in (0, 1, 2, 99)], [None, 2, 1, None])
        self.assertEqual([WEB.step_back(1, letter) for letter in (0, 1, 2, 99)], [0, None, 1, None])
        for method in (WEB.step_ahead, WEB.step_back):
            self.assertIsNone(method(letter=5, place=0))
            for place in NO_NUMBERS + (3,):
                self.refuses(InvalidPlace, -1, method, place, None)
            for letter in NO_NUMBERS + (100,):
                self.refuses(InvalidLetter, -1, method, 0, letter)

    def test_wrong_places(self):
        for places in (0,) + NO_NUMBERS:
            self.refuses(InvalidSize, "places", Web, places, None, None, None)

    def test_wrong_ties(self):
        for ties in (None, 1, "ab", {(0, 0, 0): 1}):
            self.refuses(InvalidTies, -1, Web, 1, ties, None, None)
        good = [(0, 0, 1)]
        for tie in STRANGE + ((0, 0), (0, 0, 0, 0), (2, 1, 0), (0, 1, 2), (0, 100, 1), (0, True, 1), (False, 1, 1)):
            self.refuses(InvalidTies, 1, Web, 2, good + [tie, None], None, None)
        # The letter leads on from this place already, or to this place.
        self.refuses(InvalidTies, 1, Web, 3, [(0, 0, 1), (0, 0, 2)], None, None)
        self.refuses(InvalidTies, 2, Web, 3, [(0, 0, 1), (0, 1, 1), (2, 0, 1)], None, None)
        self.refuses(InvalidTies, 1, Web, 3, [(0, 0, 1), (0, 0, 1)], None, None)
        self.assertEqual(Web(2, [(0, 0, 1), (1, 0, 0)], 0, 1).places, 2)

    def test_wrong_start_and_end(self):
        for place in NO_NUMBERS + (1,):
            self.refuses(InvalidPlace, "start", Web, 1, [], place, None)
            self.refuses(InvalidPlace, "end", Web, 1, [], 0, place)

    def test_places_on_no_way(self):
        self.refuses(InvalidWeb, 1, Web, 2, [], 0, 0)
        self.refuses(InvalidWeb, 0, Web, 2, [], 0, 1)
        self.refuses(InvalidWeb, 2, Web, 5, [(0, 0, 1), (1, 1, 2), (3, 3, 1), (1, 4, 4)], 0, 1)
        self.refuses(InvalidWeb, 0, Web, 3, [(1, 0, 0), (1, 1, 2)], 1, 2)
        self.refuses(InvalidWeb, 1, Web, 10 ** 30, [], 0, 0)
        # The way from start to end may go through a place again.
        self.assertEqual(Web(3, [(0, 0, 1), (1, 1, 0), (1, 2, 2), (2, 3, 1)], 0, 0).places, 3)

    def test_reading(self):
        self.assertIs(reads_text(WEB, (0, 2, 2, 2, 1)), True)
        self.assertIs(reads_text(WEB, [0]), False)
        self.assertIs(reads_text(WEB, ()), False)
        self.assertIs(reads_text(Web(1, [], 0, 0), ()), True)
        self.refuses(InvalidWeb, -1, reads_text, None, None)
        for text in STRANGE:
            self.refuses(InvalidText, -1, reads_text, WEB, text)

    def test_word_ends(self):
        self.assertEqual(word_end(WEB, 0, [(0, 1), (2, -1), (2, -1)]), 1)
        self.assertEqual(word_end(WEB, 2, ((1, -1), (0, -1))), 0)
        self.assertEqual(word_end(WEB, 1, ()), 1)
        # Struck out nothing is left, but there is no tie 5 along which it leads.
        self.assertIsNone(word_end(WEB, 0, ((5, 1), (5, -1))))
        self.refuses(InvalidWeb, -1, word_end, (), None, None)
        self.refuses(InvalidPlace, -1, word_end, WEB, 3, None)
        for word in (None, 3, [(0, 0)], [(0, True)], [(100, 1)], ((0,),)):
            self.refuses(InvalidWord, -1, word_end, WEB, 0, word)

    def test_struck_words_lead_where_words_lead(self):
        generator = random.Random(7)
        led = 0
        for _ in range(3000):
            web = random_web(generator)
            word = [(generator.randrange(2), generator.choice((1, -1))) for _ in range(generator.randint(0, 5))]
            place = generator.randrange(web.places)
            end = word_end(web, place, word)
            if end is not None:
                led += 1
                self.assertEqual(word_end(web, place, strike_out(word)), end)
                self.assertEqual(word_end(web, end, [(letter, -sign) for letter, sign in word[::-1]]), place)
        self.assertGreater(led, 300)

    def test_plain_webs(self):
        web = Web(4, [(2, 7, 1), (2, 3, 0), (0, 1, 3), (1, 1, 0), (1, 0, 3)], 2, 3)
        self.assertEqual(plain_web(web), Web(4, [(0, 3, 1), (0, 7, 2), (1, 1, 3), (2, 1, 1), (2, 0, 3)], 0, 3))
        self.refuses(InvalidWeb, -1, plain_web, "web")

    def test_plain_webs_are_equal_where_the_same_is_read(self):
        generator = random.Random(8)
        kinds = set()
        for _ in range(600):
            one, other = random_web(generator, 3, 2), random_web(generator, 3, 2)
            alike = plain_web(one) == plain_web(other)
            kinds.add(alike)
            self.assertEqual(alike, unlike_text(one, other) is None)
            self.assertEqual(plain_web(plain_web(one)), plain_web(one))
            self.assertEqual(plain_web(one).start, 0)
            self.assertIsNone(unlike_text(one, plain_web(one)))
        self.assertEqual(kinds, {True, False})

    def test_each_place_has_texts_of_its_own(self):
        """So no text leads from two places to the end, and no machine of fewer places reads just this."""
        generator = random.Random(9)
        for _ in range(150):
            web = random_web(generator)
            heads, tails = first_ways(web), last_ways(web)
            for place, head in enumerate(heads):
                for other, tail in enumerate(tails):
                    self.assertEqual(reads_text(web, head + tail), place == other)


class ToldTest(Case):

    def test_some(self):
        self.assertEqual(told_web(TOLD), Web(3, [(0, 0, 1), (1, 1, 2), (1, 2, 1)], 0, 2))
        self.assertEqual(told_web([()]), Web(1, [], 0, 0))
        self.assertEqual(told_web([(5, 5)]), Web(3, [(0, 5, 1), (1, 5, 2)], 0, 2))
        self.assertEqual(told_web([(), (5, 5)]), Web(2, [(0, 5, 1), (1, 5, 0)], 0, 0))

    def test_reads_what_can_come(self):
        generator = random.Random(10)
        for _ in range(200):
            letters = generator.choice((1, 2, 3))
            texts = random_lot(generator, 4, 4, letters)
            web = told_web(texts)
            reads = folded_reader(texts)
            for text in texts_to(4, letters):
                self.assertEqual(reads_text(web, text), reads(text))
            self.assertEqual(plain_web(web), web)
            self.assertEqual(told_web(texts[::-1]), web)

    def test_wrong_texts(self):
        for function in (told_web, fold_steps):
            for texts in (None, (), 3, "a"):
                self.refuses(InvalidTexts, -1, function, texts)
            for wrong in STRANGE + ((1,),):
                if wrong != "":
                    self.refuses(InvalidTexts, 2, function, [(1,), (2,), wrong, None])

    def test_fold_steps(self):
        generator = random.Random(11)
        for _ in range(150):
            texts = random_lot(generator, 4, 4, generator.choice((1, 2)))
            steps = fold_steps(texts)
            fronts = {text[:cut] for text in texts for cut in range(len(text) + 1)}
            self.assertEqual(len(steps), len(fronts) - told_web(texts).places)
            self.assertIs(folds_hold(texts, steps), True)
            other = all_fold_ways(generator, texts)
            self.assertEqual(len(other), len(steps))
            self.assertIs(folds_hold(texts, other), True)
            if steps:
                self.check_changed(generator, texts, steps)

    def check_changed(self, generator, texts, steps):
        at = generator.randrange(len(steps))
        self.assertIs(folds_hold(texts, steps[:at]), False)
        self.assertIs(folds_hold(texts, steps + (steps[at],)), False)
        self.assertIs(folds_hold(texts, tuple((other, one) for one, other in steps)), True)
        self.assertIs(folds_hold(texts, list(steps)), False)
        self.assertIs(folds_hold(texts, steps[:at] + (list(steps[at]),) + steps[at + 1:]), False)
        self.assertIs(folds_hold(texts, steps[:at] + (steps[at] + ((),),) + steps[at + 1:]), False)
        one, other = steps[at]
        self.assertIs(folds_hold(texts, steps[:at] + ((list(one), other),) + steps[at + 1:]), False)

    def test_pairs_that_are_not_due(self):
        self.assertEqual(fold_steps([(0,)]), ())
        self.assertIs(folds_hold([(0,)], ()), True)
        self.assertIs(folds_hold([(0,)], (((), (0,)),)), False)
        self.assertIs(folds_hold([(0,)], (((0,), (0,)),)), False)
        self.assertIs(folds_hold([(0,), (1,)], (((0,), (1,)),)), True)
        self.assertIs(folds_hold([(0,), (1,)], (((0,), (2,)),)), False)
        # Just one of both is told, the other one a beginning.
        self.assertIs(folds_hold([(0,), (1,)], (((), (0,)),)), False)
        self.assertIs(folds_hold([(0,), (1,)], (((0,), ()),)), False)
        # They end with one letter, but what is ahead of it is not one.
        self.assertIs(folds_hold([(0, 5, 9), (1, 5, 8)], (((0, 5, 9), (1, 5, 8)),)), True)
        self.assertIs(folds_hold([(0, 5, 9), (1, 5, 8)], (((0, 5), (1, 5)),)), False)
        # One step twice in place of two is as many.
        self.assertIs(folds_hold([(0, 9), (1, 9)], (((0, 9), (1, 9)), ((0, 9), (1, 9)))), False)
        # The beginnings 0 and 1 are due behind 0 9 and 1 9, not ahead of them.
        good = (((0, 9), (1, 9)), ((0,), (1,)))
        self.assertIs(folds_hold([(0, 9), (1, 9)], good), True)
        self.assertIs(folds_hold([(0, 9), (1, 9)], good[::-1]), False)
        self.assertIs(folds_hold([(0, 9), (1, 9)], (((0, 9), (1, 9)), ((False,), (1,)))), False)

    def test_any_value(self):
        for value in STRANGE + (WEB, (WEB,), ((WEB, WEB),), (((0,),),)):
            self.assertIs(folds_hold([(0,), (1,)], value), False)
        self.refuses(InvalidTexts, -1, folds_hold, None, ())
        self.refuses(InvalidTexts, 1, folds_hold, [(), ()], ())

    def test_greatest(self):
        generator = random.Random(12)
        for letters in (1, 2, 5, 100):
            texts = sorted({tuple(generator.randrange(letters) for _ in range(12 - at)) for at in range(6)})
            self.assertIs(folds_hold(texts, fold_steps(texts)), True)
            self.assertTrue(all(reads_text(told_web(texts), text) for text in texts))


class MachineTest(Case):

    def test_some(self):
        self.assertIsNone(folded_web(2, [(1, 0, 0)], 0, [1]))
        self.assertEqual(enough_texts(2, [(1, 0, 0)], 0, [1]), ())
        self.assertEqual(folded_web(1, [], 0, [0]), Web(1, [], 0, 0))
        self.assertEqual(enough_texts(1, [], 0, [0]), ((),))
        # The place 2 is on no way: what leads there folds nothing.
        self.assertEqual(folded_web(3, [(0, 0, 1), (0, 0, 2)], 0, (1,)), Web(2, [(0, 0, 1)], 0, 1))
        self.assertEqual(folded_web(3, [(0, 0, 1), (0, 0, 2)], 0, (1, 2)), Web(2, [(0, 0, 1)], 0, 1))
        # Both ends are one place.
        self.assertEqual(folded_web(2, [(0, 0, 1)], 0, [1, 0]), Web(1, [(0, 0, 0)], 0, 0))
        self.assertEqual(folded_web(10 ** 30, [(0, 5, 10 ** 29)], 0, [10 ** 29]), Web(2, [(0, 5, 1)], 0, 1))

    def test_small_ones(self):
        generator = random.Random(13)
        read = 0
        for _ in range(400):
            places, ties, start, ends = random_machine(generator)
            texts = [text for text in texts_to(7, 2) if leads(ties, [start], text) & set(ends)]
            web = folded_web(places, ties, start, ends)
            enough = enough_texts(places, ties, start, ends)
            if not texts:
                self.assertIsNone(web)
                self.assertEqual(enough, ())
                continue
            read += 1
            self.assertEqual(plain_web(web), web)
            self.assertEqual(told_web(sorted(set(enough))), web)
            self.assertEqual(told_web(texts), web)
            self.assertTrue(all(leads(ties, [start], text) & set(ends) for text in enough))
            self.check_bound(ties, start, ends, enough)
        self.assertGreater(read, 200)

    def check_bound(self, ties, start, ends, enough):
        ahead, behind = {start}, set(ends)
        for _ in ties:
            ahead |= {end for begin, _, end in ties if begin in ahead}
            behind |= {begin for begin, _, end in ties if end in behind}
        useful = ahead & behind
        inner = [tie for tie in ties if tie[0] in useful and tie[2] in useful]
        self.assertLessEqual(len(enough), len(inner) - len(useful) + 1 + len(useful & set(ends)))

    def test_what_the_web_reads_comes_of_what_the_machine_reads(self):
        generator = random.Random(14)
        for _ in range(60):
            machine = random_machine(generator, 4)
            enough = sorted(set(enough_texts(*machine)))
            if enough:
                for text in texts_to(4, 2):
                    self.assertEqual(reads_text(folded_web(*machine), text), can_come(enough, text))

    def test_wrong_machines(self):
        for function in (folded_web, enough_texts):
            for places in (0,) + NO_NUMBERS:
                self.refuses(InvalidSize, "places", function, places, None, None, None)
            for ties in (None, 3, "ab"):
                self.refuses(InvalidTies, -1, function, 2, ties, None, None)
            for tie in STRANGE + ((0, 0), (2, 0, 0), (0, 0, 2), (0, 100, 1), (0, 0, 1)):
                self.refuses(InvalidTies, 2, function, 2, [(0, 0, 1), (0, 0, 0), tie, None], None, None)
            for start in NO_NUMBERS + (2,):
                self.refuses(InvalidPlace, "start", function, 2, [], start, None)
            for ends in (None, (), [], 0, "a"):
                self.refuses(InvalidEnds, -1, function, 2, [], 0, ends)
            for end in NO_NUMBERS + (2, 1):
                self.refuses(InvalidEnds, 1, function, 2, [], 0, [1, end, None])

    def test_greatest(self):
        generator = random.Random(15)
        for _ in range(20):
            every = [(begin, letter, end) for begin in range(18) for letter in range(3) for end in range(18)]
            machine = (18, generator.sample(every, 24), 0, list(range(0, 18, 2)))
            enough = enough_texts(*machine)
            self.assertEqual(told_web(sorted(set(enough))), folded_web(*machine))


class UnlikeTest(Case):

    def test_small_ones(self):
        generator = random.Random(16)
        texts = sorted(texts_to(7, 2), key=lambda text: (len(text), text))
        kinds = set()
        for _ in range(300):
            one, other = random_web(generator, 3, 3), random_web(generator, 3, 3)
            found = unlike_text(one, other)
            expected = [text for text in texts if reads_text(one, text) != reads_text(other, text)]
            kinds.add(found is None)
            if found is None or len(found) > 7:
                self.assertEqual(expected, [])
            else:
                self.assertEqual(found, expected[0])
            if found is not None:
                self.assertLess(len(found), one.places + other.places)
                self.assertNotEqual(reads_text(one, found), reads_text(other, found))
        self.assertEqual(kinds, {True, False})

    def test_some(self):
        self.assertEqual(unlike_text(WEB, Web(1, [], 0, 0)), ())
        self.assertEqual(unlike_text(told_web([(9, 9), (9, 9, 9, 9)]), told_web([(9, 9)])), ())
        self.assertEqual(unlike_text(told_web([(9, 9), (9, 8, 9)]), told_web([(9, 9)])), (9, 8, 9))
        self.assertEqual(unlike_text(told_web([(3,)]), told_web([(2,)])), (2,))

    def test_wrong_webs(self):
        for web in STRANGE:
            self.refuses(InvalidWeb, 0, unlike_text, web, None)
            self.refuses(InvalidWeb, 1, unlike_text, WEB, web)
