"""What the tests of several modules need."""

import unittest
from itertools import product

# Values of all kinds, none of which is a text, a word, a bag, a history or a number.
STRANGE = (None, True, -1, "ab", "", ((),), [[0, 1, 2]], (None,), ("told",), [True], (-1,), (100,), [0, "a"])


def texts_to(length, letters):
    """All texts of at most this length, of so many letters."""
    return [text for many in range(length + 1) for text in product(range(letters), repeat=many)]


def as_lists(value):
    """The same value, tuples turned to lists at any depth."""
    return [as_lists(part) for part in value] if isinstance(value, (list, tuple)) else value


def as_tuples(value):
    """The same value, lists turned to tuples at any depth."""
    return tuple(as_tuples(part) for part in value) if isinstance(value, (list, tuple)) else value


def holds_list(value):
    """Whether there is a list in the value at any depth."""
    if isinstance(value, list):
        return True
    return isinstance(value, tuple) and any(holds_list(part) for part in value)


class Case(unittest.TestCase):
    """A test that asks for errors with what they keep."""

    def refuses(self, error, told, function, *arguments):
        """The call raises this very error, whose only attribute has this value."""
        with self.assertRaises(error) as caught:
            function(*arguments)
        self.assertIs(type(caught.exception), error)
        name = "word" if hasattr(caught.exception, "word") else "at"
        value = getattr(caught.exception, name)
        self.assertEqual((type(value), value), (type(told), told))
