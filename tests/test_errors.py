"""Promise [4]: the errors and what they keep."""

import inspect

from cancelsback import errors
from tests.support import Case

WITH_AT = """InvalidText InvalidTexts InvalidVersions InvalidWord InvalidTies InvalidPlace InvalidEnds InvalidWeb
InvalidLetter InvalidHistory InvalidDeeds InvalidChanges InvalidRow InvalidOrder InvalidLots InvalidCells InvalidBags
InvalidBag InvalidBases InvalidPlan InvalidLabel InvalidMarks InvalidChain InvalidIndex Refused""".split()


class ErrorsTest(Case):

    def test_base_class(self):
        self.assertEqual(errors.MergeError.__bases__, (Exception,))

    def test_all_derive_directly(self):
        for name in WITH_AT + ["InvalidSize", "InvalidCommand"]:
            with self.subTest(name):
                self.assertEqual(getattr(errors, name).__bases__, (errors.MergeError,))

    def test_there_are_no_others(self):
        names = [name for name, kind in vars(errors).items() if inspect.isclass(kind)]
        self.assertEqual(sorted(names), sorted(WITH_AT + ["MergeError", "InvalidSize", "InvalidCommand"]))

    def test_each_keeps_its_argument_itself(self):
        thing = [1, [2]]
        for name in WITH_AT:
            with self.subTest(name):
                kind = getattr(errors, name)
                self.assertIs(kind(thing).at, thing)
                self.assertIs(kind(at=thing).at, thing)
                self.assertEqual(kind(-1).at, -1)
        self.assertIs(errors.InvalidSize(thing).word, thing)
        self.assertEqual(errors.InvalidSize(word="many").word, "many")
        self.assertEqual(vars(errors.InvalidCommand()), {})

    def test_each_wants_its_argument(self):
        for name in WITH_AT + ["InvalidSize"]:
            with self.subTest(name):
                self.assertRaises(TypeError, getattr(errors, name))

    def test_they_can_be_caught_by_the_base_class(self):
        for name in WITH_AT:
            with self.assertRaises(errors.MergeError):
                raise getattr(errors, name)(0)
