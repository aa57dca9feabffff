"""Beginnings of told versions in classes; links with distances, by which they are made one, and what leads along them.

A rule makes beginnings one at a distance: told versions with so many last lines alike; what one letter leads to from
beginnings that are one; beginnings with so many last lines alike from which one letter leads to what is one.
"""

from cancelsback.checks import is_number, is_text_paper, is_tuple_of
from cancelsback.fronts import beginnings_of
from cancelsback.merges import end_length


class FrontClasses:
    """The beginnings of told versions; those that are one have one class."""

    def __init__(self, texts):
        self.texts = texts
        self.fronts = beginnings_of(texts)
        self.classes = {front: at for at, front in enumerate(self.fronts)}
        self.members = [[front] for front in self.fronts]

    def are_one(self, one, other):
        """Whether two beginnings are one."""
        return self.classes[one] == self.classes[other]

    def make_one(self, one, other):
        """Makes two beginnings one: the other one's class goes; whether they were not one yet."""
        kept, gone = self.classes[one], self.classes[other]
        if kept == gone:
            return False
        for front in self.members[gone]:
            self.classes[front] = kept
        self.members[kept] = self.members[kept] + self.members[gone]
        self.members[gone] = []
        return True

    def marks_at(self, distance):
        """Pairs of a mark and a beginning: those with one mark are made one by a rule at this distance."""
        marks = []
        for text in self.texts:
            if len(text) >= distance:
                marks.append((("told", text[len(text) - distance:]), text))
        for front in self.fronts[1:]:
            before, letter = front[:-1], front[-1]
            marks.append((("behind", self.classes[before], letter), front))
            if len(before) >= distance:
                marks.append((("ahead", self.classes[front], letter, before[len(before) - distance:]), before))
        return marks

    def pairs_due(self, distance):
        """Some pairs of beginnings, not one yet, that a rule makes one at this distance; none if there are none."""
        firsts = {}
        pairs = []
        for mark, front in self.marks_at(distance):
            first = firsts.setdefault(mark, front)
            if not self.are_one(first, front):
                pairs.append((first, front))
        return pairs

    def is_due(self, one, other, distance):
        """Whether a rule makes two beginnings one at this distance."""
        if one and other and one[-1] == other[-1] and self.are_one(one[:-1], other[:-1]):
            return True
        if end_length(one, other) < distance:
            return False
        if one in self.texts and other in self.texts:
            return True
        for front in self.fronts:
            if front and front[:-1] == one:
                twin = other + front[-1:]
                if twin in self.classes and self.are_one(front, twin):
                    return True
        return False


def longest_length(texts):
    """The greatest length of these texts."""
    return max([len(text) for text in texts])


def links_of(texts):
    """Links (front, front, distance), each at the greatest distance at which a rule makes two one, to the end."""
    classes = FrontClasses(texts)
    links = []
    for distance in range(longest_length(texts), -1, -1):
        pairs = classes.pairs_due(distance)
        while pairs:
            for one, other in pairs:
                if classes.make_one(one, other):
                    links.append((one, other, distance))
            pairs = classes.pairs_due(distance)
    return tuple(links)


def are_links(classes, value):
    """Whether any value is a tuple of triples (front, front, number)."""
    if not isinstance(value, tuple):
        return False
    for link in value:
        if not is_tuple_of(link, 3) or not is_number(link[2]):
            return False
        if not all([is_text_paper(front) and front in classes.classes for front in link[:2]]):
            return False
    return True


def are_fair(texts, links):
    """Whether at each distance all that a rule makes one is one by the links of this distance or more."""
    classes = FrontClasses(texts)
    numbers = list(range(longest_length(texts) + 1)) + [link[2] for link in links]
    for distance in sorted(set(numbers))[::-1]:
        for one, other, number in links:
            if number == distance:
                classes.make_one(one, other)
        if classes.pairs_due(distance):
            return False
    return True


class LinkedWeb:
    """The classes by fair links of a distance or more as places: what leads along them."""

    def __init__(self, texts, links, distance):
        self.joined = FrontClasses(texts)
        for one, other, number in links:
            if number >= distance:
                self.joined.make_one(one, other)
        self.start = self.joined.classes[()]
        ends = [self.joined.classes[text] for text in texts]
        self.ends = sorted(set(ends))
        self.moves = {}
        for front in self.joined.fronts[1:]:
            begin = self.joined.classes[front[:-1]]
            self.moves[(begin, front[-1])] = self.joined.classes[front]

    def linked_ties(self):
        """The ties (place, letter, place), ascending."""
        return sorted([(begin, letter, self.moves[(begin, letter)]) for begin, letter in self.moves])

    def place_count(self):
        """How many places there are."""
        return len(set(list(self.joined.classes.values())))

    def leads(self, text):
        """Whether the text leads from the start to an end."""
        place = self.start
        for letter in text:
            if (place, letter) not in self.moves:
                return False
            place = self.moves[(place, letter)]
        return place in self.ends
