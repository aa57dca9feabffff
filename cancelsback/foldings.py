"""Points made one wherever one letter leads from one point, or to one point, twice."""

from cancelsback.fronts import beginnings_of
from cancelsback.histories import struck_row


class Folding:
    """Points by number with ties by letters; rows of told versions may tell how points that are one lie to each other.

    Such a row has an even length: a version, the next one undone, and so on. What leads to a point is its row's
    product with what leads to its root behind it.
    """

    def __init__(self, many):
        self.roots = list(range(many))
        self.shifts = [()] * many
        self.members = [[at] for at in range(many)]
        # For each root and letter one tie (own point, other point): first ahead, then backwards.
        self.sides = ([{} for _ in range(many)], [{} for _ in range(many)])
        self.waiting = []
        self.taken = 0
        self.joined = []
        self.unlike_rows = None

    def row_between(self, one, other):
        """The row whose product, with what leads to the other point behind it, leads to the one: both are one."""
        return struck_row(self.shifts[one] + self.shifts[other][::-1])

    def tie_up(self, begin, letter, end):
        """A letter leads from one point to another."""
        self.take_tie(0, letter, begin, end)
        self.take_tie(1, letter, end, begin)

    def take_tie(self, side, letter, own, far):
        """Keeps a tie of the own point's root; where there is one, both their other points are linked."""
        known = self.sides[side][self.roots[own]]
        if letter in known:
            self.link(known[letter][1], far, self.row_between(known[letter][0], own))
        else:
            known[letter] = (own, far)

    def link(self, one, other, row):
        """Both points are to be made one, with this row between them."""
        self.waiting.append((one, other, row))

    def fold(self):
        """Makes points one to the end, or until two unlike rows are met that lie between the same points."""
        while self.taken < len(self.waiting) and self.unlike_rows is None:
            one, other, row = self.waiting[self.taken]
            self.taken += 1
            if self.roots[one] != self.roots[other]:
                self.joined.append((one, other))
                self.join_roots(one, other, row)
            elif row != self.row_between(one, other):
                self.unlike_rows = (row, self.row_between(one, other))

    def join_roots(self, one, other, row):
        """Puts the smaller of two roots' points to the other root."""
        if len(self.members[self.roots[one]]) < len(self.members[self.roots[other]]):
            one, other, row = other, one, row[::-1]
        root, gone = self.roots[one], self.roots[other]
        onward = struck_row(self.shifts[other][::-1] + row[::-1] + self.shifts[one])
        for point in self.members[gone]:
            self.roots[point] = root
            self.shifts[point] = struck_row(self.shifts[point] + onward)
        self.members[root] = self.members[root] + self.members[gone]
        for side in (0, 1):
            for letter, (own, far) in list(self.sides[side][gone].items()):
                self.take_tie(side, letter, own, far)

    def root_ties(self):
        """The unlike ties between roots, ascending."""
        ties = []
        for at, root in enumerate(self.roots):
            if at == root:
                ties.extend([(root, letter, self.roots[far]) for letter, (_, far) in list(self.sides[0][root].items())])
        return sorted(ties)


class TextFolding:
    """The beginnings of told versions as points, folded to the end, or until rows tell one word twice."""

    def __init__(self, texts, with_rows):
        self.texts = texts
        self.fronts = beginnings_of(texts)
        self.numbers = {front: at for at, front in enumerate(self.fronts)}
        self.points = Folding(len(self.fronts))
        for front in self.fronts:
            if front:
                self.points.tie_up(self.numbers[front[:-1]], front[-1], self.numbers[front])
        for at in range(1, len(texts)):
            row = (at, 0) if with_rows else ()
            self.points.link(self.numbers[texts[at]], self.numbers[texts[0]], row)
        self.points.fold()

    def root_of(self, front):
        """The root of a beginning."""
        return self.points.roots[self.numbers[front]]

    def joined_fronts(self):
        """The pairs of beginnings that were made one, in turn."""
        return tuple([(self.fronts[one], self.fronts[other]) for one, other in self.points.joined])
