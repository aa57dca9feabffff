"""What the tests of several modules need."""

import unittest
from itertools import product

# Values of all kinds, none of which is a text, a word, a bag, a history or a number.
STRANGE = (None, True, -1, "ab", "", ((),), [[0, 1, 2]], (None,), ("told",), [True], (-1,), (100,), [0, "a"])


def texts_to(length, letters):
    """All texts of at most this length, of so many letters."""
    return [text for many in range(length + 1) for text in product(range(letters), repeat=many)]


def as_lists(value):
    """The same value, tuples turned to lists at any depth."""
    return [as_lists(part) for part in value] if isinstance(value, (list, tuple)) else value


def as_tuples(value):
    """The same value, lists turned to tuples at any depth."""
    return tuple(as_tuples(part) for part in value) if isinstance(value, (list, tuple)) else value


def holds_list(value):
    """Whether there is a list in the value at any depth."""
    if isinstance(value, list):
        return True
    return isinstance(value, tuple) and any(holds_list(part) for part in value)


def random_lot(generator, most, length, letters):
    """Up to so many unlike texts."""
    return list({tuple(generator.randrange(letters) for _ in range(generator.randint(0, length)))
                 for _ in range(most)})


def folded_reader(versions):
    """Tells whether a text can come at all: beginnings are made one from both sides until none are left to be."""
    fronts = {version[:cut]: version[:cut] for version in versions for cut in range(len(version) + 1)}
    ties = [(front[:-1], front[-1], front) for front in fronts if front]

    def join(one, other):
        for front in fronts:
            if fronts[front] == other:
                fronts[front] = one

    for version in versions:
        join(fronts[versions[0]], fronts[version])
    grown = True
    while grown:
        grown = False
        for begin, letter, end in ties:
            for from_front, other, to_front in ties:
                alike = fronts[begin] == fronts[from_front], fronts[end] == fronts[to_front]
                if letter == other and alike[0] != alike[1]:
                    join(fronts[begin], fronts[from_front])
                    join(fronts[end], fronts[to_front])
                    grown = True

    def reads(text):
        place = fronts[()]
        for letter in text:
            places = {fronts[end] for begin, other, end in ties if fronts[begin] == place and other == letter}
            if not places:
                return False
            place = places.pop()
        return place == fronts[versions[0]]

    return reads


class Case(unittest.TestCase):
    """A test that asks for errors with what they keep."""

    def refuses(self, error, told, function, *arguments):
        """The call raises this very error, whose only attribute has this value."""
        with self.assertRaises(error) as caught:
            function(*arguments)
        self.assertIs(type(caught.exception), error)
        name = "word" if hasattr(caught.exception, "word") else "at"
        value = getattr(caught.exception, name)
        self.assertEqual((type(value), value), (type(told), told))
