"""What the tests of several modules need."""

import unittest
from itertools import product

# Values of all kinds, none of which is a text, a word, a bag, a history or a number.
STRANGE = (None, True, -1, "ab", "", ((),), [[0, 1, 2]], (None,), ("told",), [True], (-1,), (100,), [0, "a"])


def texts_to(length, letters):
    """All texts of at most this length, of so many letters."""
    return [text for many in range(length + 1) for text in product(range(letters), repeat=many)]


def as_lists(value):
    """The same value, tuples turned to lists at any depth."""
    return [as_lists(part) for part in value] if isinstance(value, (list, tuple)) else value


def as_tuples(value):
    """The same value, lists turned to tuples at any depth."""
    return tuple(as_tuples(part) for part in value) if isinstance(value, (list, tuple)) else value


def holds_list(value):
    """Whether there is a list in the value at any depth."""
    if isinstance(value, list):
        return True
    return isinstance(value, tuple) and any(holds_list(part) for part in value)


def random_lot(generator, most, length, letters):
    """Up to so many unlike texts."""
    return list({tuple(generator.randrange(letters) for _ in range(generator.randint(0, length)))
                 for _ in range(most)})


def folded_reader(versions):
    """Tells whether a text can come at all: beginnings are made one from both sides until none are left to be."""
    fronts = {version[:cut]: version[:cut] for version in versions for cut in range(len(version) + 1)}
    ties = [(front[:-1], front[-1], front) for front in fronts if front]

    def join(one, other):
        for front in fronts:
            if fronts[front] == other:
                fronts[front] = one

    for version in versions:
        join(fronts[versions[0]], fronts[version])
    grown = True
    while grown:
        grown = False
        for begin, letter, end in ties:
            for from_front, other, to_front in ties:
                alike = fronts[begin] == fronts[from_front], fronts[end] == fronts[to_front]
                if letter == other and alike[0] != alike[1]:
                    join(fronts[begin], fronts[from_front])
                    join(fronts[end], fronts[to_front])
                    grown = True

    def reads(text):
        place = fronts[()]
        for letter in text:
            places = {fronts[end] for begin, other, end in ties if fronts[begin] == place and other == letter}
            if not places:
                return False
            place = places.pop()
        return place == fronts[versions[0]]

    return reads


def linked_classes(versions, links, distance):
    """For each beginning its class by links of the distance or more."""
    classes = {version[:cut]: version[:cut] for version in versions for cut in range(len(version) + 1)}
    for one, other, number in links:
        if number >= distance:
            kept, gone = classes[one], classes[other]
            classes = {front: kept if classes[front] == gone else classes[front] for front in classes}
    return classes


def leads_at(versions, links, distance, text):
    """Whether the text goes letter by letter, at any time also along links of the distance or more."""
    classes = linked_classes(versions, links, distance)
    places = {classes[()]}
    for letter in text:
        places = {classes[front] for front in classes if front and front[-1] == letter and classes[front[:-1]] in places}
    return any(classes[version] in places for version in versions)


def come_at(versions, distance, most, limit):
    """What comes by merges that go at the distance, one after another, no text longer than the most; None if many."""
    found = {version: True for version in versions}
    fresh = list(found)
    while fresh and len(found) <= limit:
        came = {}
        for base in found:
            for mine in found:
                alike = 0
                while alike < min(len(base), len(mine)) and base[-1 - alike] == mine[-1 - alike]:
                    alike += 1
                for yours in found:
                    front = 0
                    while front < min(len(base), len(yours)) and base[front] == yours[front]:
                        front += 1
                    if alike + front - len(base) >= distance and len(mine) + len(yours) - len(base) <= most:
                        came[mine[:len(mine) - alike] + yours[len(base) - alike:]] = True
        fresh = [text for text in came if text not in found]
        found.update(came)
    return None if len(found) > limit else found


class Case(unittest.TestCase):
    """A test that asks for errors with what they keep."""

    def refuses(self, error, told, function, *arguments):
        """The call raises this very error, whose only attribute has this value."""
        with self.assertRaises(error) as caught:
            function(*arguments)
        self.assertIs(type(caught.exception), error)
        name = "word" if hasattr(caught.exception, "word") else "at"
        value = getattr(caught.exception, name)
        self.assertEqual((type(value), value), (type(told), told))
