"""All whole multiples of rows of integers, put together."""


def less(one, other):
    """The one row less the other, number by number."""
    return tuple([first - second for first, second in zip(one, other)])


def less_times(one, other, times):
    """The one row less the other so many times."""
    return tuple([first - times * second for first, second in zip(one, other)])


class Lattice:
    """Rows of integers; each has its lead, its first number that is not 0, above 0 and right of the leads before."""

    def __init__(self, width):
        # Numbers of a row beyond the width are carried along and give no lead.
        self.width = width
        self.lead_rows = {}

    def take_row(self, row):
        """Lets this row and its multiples in; whether there is more now than before."""
        more = False
        for at in range(self.width):
            if row[at] == 0:
                continue
            if at not in self.lead_rows:
                self.lead_rows[at] = row if row[at] > 0 else less_times(row, row, 2)
                return True
            known = self.lead_rows[at]
            if row[at] % known[at] == 0:
                row = less_times(row, known, row[at] // known[at])
                continue
            more = True
            while row[at] != 0:
                known, row = row, less_times(known, row, known[at] // row[at])
            self.lead_rows[at] = known if known[at] > 0 else less_times(known, known, 2)
        return more

    def rest_of(self, row):
        """The one row that differs from this by what the lattice holds, at each lead from 0 to below it."""
        for at in range(self.width):
            if at in self.lead_rows:
                row = less_times(row, self.lead_rows[at], row[at] // self.lead_rows[at][at])
        return row

    def holds_row(self, row):
        """Whether the row is a sum of whole multiples of the rows."""
        return not any(self.rest_of(row)[:self.width])

    def tidy_rows(self):
        """The rows by their leads, the numbers above a lead from 0 to below it."""
        rows = []
        for at in sorted(self.lead_rows):
            row = self.lead_rows[at]
            for to in range(at + 1, self.width):
                if to in self.lead_rows:
                    row = less_times(row, self.lead_rows[to], row[to] // self.lead_rows[to][to])
            rows.append(row)
        return tuple(rows)

    def rows_between(self, row, most):
        """Ascending, all that differ from the row by what the lattice holds and have numbers from 0 to the most."""
        found = [row]
        for at in range(self.width):
            if at in self.lead_rows:
                found = [moved for known in found for moved in moved_along(known, self.lead_rows[at], at, most)]
            else:
                found = [known for known in found if 0 <= known[at] <= most]
        return sorted(found)


def moved_along(row, lead, at, most):
    """The row with the lead put on so often that the number at the place is from 0 to the most."""
    first = less_times(row, lead, row[at] // lead[at])
    many = (most - first[at]) // lead[at] + 1
    return [less_times(first, lead, -times) for times in range(max(0, many))]


def multiples_for(rows, wanted):
    """Integers by which the rows make the wanted one together, None if there are none."""
    width = len(wanted)
    many = len(rows)
    lattice = Lattice(width)
    for at, row in enumerate(rows):
        lattice.take_row(row + tuple([1 if to == at else 0 for to in range(many)]))
    rest = lattice.rest_of(wanted + (0,) * many)
    if any(rest[:width]):
        return None
    return tuple([-number for number in rest[width:]])
