"""Promise [57]: live versions with releases, undo and redo."""

import random

from cancelsback.errors import InvalidText, MergeError, Refused
from cancelsback.live import Live
from cancelsback.merges import merge_texts
from cancelsback.releases import lost_text, over_paper
from tests.support import Case, STRANGE, texts_to

NO_NUMBERS = (None, True, False, -1, "0", (0,), [0], 10)


def unlike(texts):
    return sorted(set(texts))


def some_live():
    """Versions 0 and 0 0, of which the second one is a base."""
    live = Live()
    live.tell_version((0,))
    live.tell_version((0, 0))
    live.release_version(1)
    return live


class LiveTest(Case):

    def test_at_first(self):
        live = Live()
        self.assertEqual((live.texts, live.bases), ((), ()))
        self.assertIs(live.still_comes(()), False)
        self.assertIs(live.undo_deed(), False)
        self.assertIs(live.redo_deed(), False)
        self.assertRaises(TypeError, iter, live)
        self.assertRaises(TypeError, len, live)

    def test_deeds(self):
        live = Live()
        self.assertEqual(live.tell_version([0]), 0)
        self.assertEqual(live.tell_version(text=(0, 0)), 1)
        self.assertIs(live.still_comes((0, 0, 0)), False)
        self.assertIsNone(live.release_version(1))
        self.assertIs(live.still_comes(text=[0, 0, 0]), False)
        self.assertIs(live.still_comes(()), True)
        self.assertEqual(live.merge_made(1, 0, 0), 2)
        self.assertEqual(live.texts, ((0,), (0, 0), ()))
        self.assertIsNone(live.release_version(number=0))
        self.assertEqual(live.bases, (0, 1))
        self.assertIs(live.still_comes((0, 0, 0)), True)
        self.assertEqual(live.lost_by(0), (0, 0, 0))
        self.assertIsNone(live.lost_by(number=1))
        self.assertIsNone(live.withdraw_base(0))
        self.assertEqual(live.bases, (1,))
        self.assertEqual(live.merge_made(base=1, mine=1, yours=0), 3)
        self.assertEqual(live.texts, ((0,), (0, 0), (), (0,)))

    def test_alike_versions(self):
        live = some_live()
        live.tell_version((0, 0))
        live.release_version(2)
        self.assertEqual((live.texts, live.bases), (((0,), (0, 0), (0, 0)), (1, 2)))
        # The other one is still a base with the same text.
        self.assertIsNone(live.lost_by(1))
        live.withdraw_base(1)
        self.assertEqual(live.lost_by(2), ())

    def test_wrong_inputs(self):
        live = some_live()
        live.tell_version((1,))
        live.undo_deed()
        before = live.texts, live.bases
        for text in STRANGE:
            self.refuses(InvalidText, -1, live.tell_version, text)
            self.refuses(InvalidText, -1, live.still_comes, text)
            self.refuses(InvalidText, -1, Live().still_comes, text)
        for number in NO_NUMBERS + (2,):
            self.refuses(Refused, "version", live.release_version, number)
            self.refuses(Refused, "base", live.withdraw_base, number)
            self.refuses(Refused, "base", live.lost_by, number)
            self.refuses(Refused, "base", live.merge_made, number, None, None)
            self.refuses(Refused, "mine", live.merge_made, 1, number, None)
            self.refuses(Refused, "yours", live.merge_made, 1, 0, number)
        self.refuses(Refused, "base", live.release_version, 1)
        for method in (live.withdraw_base, live.lost_by):
            self.refuses(Refused, "base", method, 0)
        self.refuses(Refused, "base", live.merge_made, 0, None, None)
        self.assertEqual((live.texts, live.bases), before)
        # What is refused is no deed: what was taken back can still be done again.
        self.assertIs(live.redo_deed(), True)
        self.assertEqual(live.texts, ((0,), (0, 0), (1,)))
        self.refuses(Refused, "clash", live.merge_made, 1, 2, 2)
        self.assertEqual(live.texts, ((0,), (0, 0), (1,)))

    def test_undo_and_redo(self):
        live = some_live()
        live.merge_made(1, 0, 0)
        live.withdraw_base(1)
        states = [((), ()), (((0,),), ()), (((0,), (0, 0)), ()), (((0,), (0, 0)), (1,)), (((0,), (0, 0), ()), (1,)),
                  (((0,), (0, 0), ()), ())]
        for state in states[-2::-1]:
            self.assertIs(live.undo_deed(), True)
            self.assertEqual((live.texts, live.bases), state)
        self.assertIs(live.undo_deed(), False)
        self.assertEqual((live.texts, live.bases), states[0])
        for state in states[1:]:
            self.assertIs(live.redo_deed(), True)
            self.assertEqual((live.texts, live.bases), state)
        self.assertIs(live.redo_deed(), False)
        self.assertEqual((live.texts, live.bases), states[-1])
        live.undo_deed()
        live.undo_deed()
        live.tell_version((7,))
        self.assertIs(live.redo_deed(), False)
        self.assertEqual((live.texts, live.bases), (((0,), (0, 0), (7,)), (1,)))
        self.assertIs(live.undo_deed(), True)
        self.assertEqual((live.texts, live.bases), states[3])

    def test_changes_of_arguments_have_no_effect(self):
        live = Live()
        text = [1, 2]
        live.tell_version(text)
        text.append(3)
        self.assertEqual(live.texts, ((1, 2),))
        before = live.texts
        live.tell_version(())
        self.assertEqual(before, ((1, 2),))


class Model:
    """The same by whole states, each kept."""

    def __init__(self):
        self.states = [((), ())]
        self.at = 0

    def put(self, texts, bases):
        self.states = self.states[:self.at + 1] + [(texts, bases)]
        self.at += 1

    def now(self):
        return self.states[self.at]


class DeedsTest(Case):

    def do_one(self, generator, live, model, letters):
        """One deed of any kind, done to both."""
        texts, bases = model.now()
        many = len(texts)
        kind = generator.randrange(6)
        number = generator.randrange(many + 1)
        if kind == 0 and many < 8:
            text = tuple(generator.randrange(letters) for _ in range(generator.randint(0, 4)))
            self.assertEqual(live.tell_version(text), many)
            model.put(texts + (text,), bases)
        elif kind == 1 and many < 8:
            self.merge_one(generator, live, model)
        elif kind == 2:
            if number < many and number not in bases:
                self.assertIsNone(live.release_version(number))
                model.put(texts, tuple(sorted(bases + (number,))))
            else:
                self.refuses(Refused, "base" if number < many else "version", live.release_version, number)
        elif kind == 3 and generator.random() < 0.5:
            if number in bases:
                self.assertIsNone(live.withdraw_base(number))
                model.put(texts, tuple(base for base in bases if base != number))
            else:
                self.refuses(Refused, "base", live.withdraw_base, number)
        elif kind == 4 and generator.random() < 0.5:
            self.assertIs(live.undo_deed(), model.at > 0)
            model.at = max(0, model.at - 1)
        elif kind == 5:
            self.assertIs(live.redo_deed(), model.at + 1 < len(model.states))
            model.at = min(len(model.states) - 1, model.at + 1)

    def merge_one(self, generator, live, model):
        texts, bases = model.now()
        base, mine, yours = [generator.randrange(len(texts) + 1) for _ in range(3)]
        came = None
        if base in bases and mine < len(texts) and yours < len(texts):
            came = merge_texts(texts[base], texts[mine], texts[yours])
        if came is None:
            before = [live.still_comes(text) for text in texts_to(2, 2)]
            with self.assertRaises(Refused):
                live.merge_made(base, mine, yours)
        else:
            before = [live.still_comes(text) for text in texts_to(2, 2)]
            self.assertEqual(live.merge_made(base, mine, yours), len(texts))
            model.put(texts + (came,), bases)
        self.assertEqual([live.still_comes(text) for text in texts_to(2, 2)], before)

    def test_any_deeds(self):
        generator = random.Random(571)
        lost = set()
        for _ in range(60):
            live, model = Live(), Model()
            letters = generator.choice((1, 2, 2))
            for _ in range(30):
                self.do_one(generator, live, model, letters)
                self.assertEqual((live.texts, live.bases), model.now())
            texts, bases = model.now()
            told, over = unlike(texts), unlike(texts[base] for base in bases)
            for text in texts_to(3, letters):
                expected = bool(told) and over_paper(told, over, text)[0] == "row"
                self.assertIs(live.still_comes(text), expected)
            for number in bases:
                fewer = unlike(texts[base] for base in bases if base != number)
                expected = lost_text(told, over, fewer)
                lost.add(expected is None)
                self.assertEqual(live.lost_by(number), expected)
        self.assertEqual(lost, {True, False})

    def test_greatest(self):
        generator = random.Random(572)
        for letters in (1, 2, 3):
            live = Live()
            for number in range(8):
                live.tell_version(tuple(generator.randrange(letters) for _ in range(5 - number % 2)))
                live.release_version(number)
            self.assertIs(live.still_comes(live.texts[0]), True)
            for number in range(8):
                live.lost_by(number)
            for number in range(8):
                live.withdraw_base(number)
            self.assertEqual(live.bases, ())
            self.assertEqual([text for text in texts_to(3, letters) + list(live.texts) if live.still_comes(text)], list(live.texts))

    def test_errors_are_of_the_package(self):
        for call in (lambda: Live().lost_by(0), lambda: Live().tell_version(None), lambda: Live().merge_made(0, 0, 0)):
            self.assertRaises(MergeError, call)
