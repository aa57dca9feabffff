"""Orders in which the bases of a chain are merged, rounds of merges, and beginnings of branches."""

from math import comb

from cancelsback.chains import merged_over, need_chain, text_of_block
from cancelsback.checks import is_integer, is_number, is_row_of
from cancelsback.errors import InvalidIndex, InvalidOrder, Refused


class Blocks:
    """Which blocks of a chain, told by their first and last place, have a text, and in how many orders they merge."""

    def __init__(self, chain):
        self.last = len(chain) - 1
        self.counts = {}
        for length in range(0, len(chain), 2):
            for begin in range(0, len(chain) - length, 2):
                end = begin + length
                if text_of_block(chain[begin:end + 1]) is not None:
                    self.counts[(begin, end)] = self.count_orders(begin, end)

    def count_orders(self, begin, end):
        """In how many orders a block merges that has a text, by the base that comes last."""
        if begin == end:
            return 1
        bases = (end - begin) // 2
        total = 0
        for place in self.last_of_block(begin, end):
            ahead = (place - begin) // 2
            count = self.counts[(begin, place - 1)] * self.counts[(place + 1, end)]
            # The bases ahead and those behind come in any turns with each other.
            total += comb(bases - 1, ahead) * count
        return total

    def last_of_block(self, begin, end):
        """The bases of a block ahead of which, and behind which, there is a text."""
        return [place for place in range(begin + 1, end, 2)
                if (begin, place - 1) in self.counts and (place + 1, end) in self.counts]

    def whole_count(self):
        """In how many orders the whole chain merges."""
        return self.counts.get((0, self.last), 0)


def without_base(chain, place):
    """The chain with the base at this place merged, None if it is not clean."""
    came = merged_over(chain, place)
    return None if came is None else chain[:place - 1] + (came,) + chain[place + 2:]


def order_count(chain):
    """How many orders of all bases there are."""
    return Blocks(need_chain(chain)).whole_count()


def next_chains(chain, places):
    """For each clean base its place in the first chain, the chain without it, the places left, and how many orders."""
    found = []
    for at, place in enumerate(places):
        shorter = without_base(chain, 2 * at + 1)
        if shorter is not None:
            found.append((place, shorter, places[:at] + places[at + 1:], Blocks(shorter).whole_count()))
    return found


def base_places(chain):
    """The places of all bases."""
    return tuple(range(1, len(chain), 2))


def nth_order(chain, number):
    """The order with this number, ascending."""
    chain = need_chain(chain)
    if not is_number(number) or number >= Blocks(chain).whole_count():
        raise InvalidIndex(-1)
    places = base_places(chain)
    order = ()
    while places:
        for place, shorter, left, count in next_chains(chain, places):
            if number < count:
                order = order + (place,)
                chain = shorter
                places = left
                break
            number -= count
    return order


def need_order(order, places):
    """The order of all these places as a tuple."""
    if not is_row_of(order, len(places)) or not all([is_integer(place) for place in order]):
        raise InvalidOrder(-1)
    if tuple(sorted(order)) != places:
        raise InvalidOrder(-1)
    return tuple(order)


def order_place(chain, order):
    """The number of the order."""
    chain = need_chain(chain)
    places = base_places(chain)
    order = need_order(order, places)
    number = 0
    for wanted in order:
        found = next_chains(chain, places)
        if wanted not in [place for place, _, _, _ in found]:
            raise Refused(wanted)
        for place, shorter, left, count in found:
            if place < wanted:
                number += count
            if place == wanted:
                chain = shorter
                places = left
    return number


def last_bases(chain):
    """The places of bases that come last in some order, ascending."""
    blocks = Blocks(need_chain(chain))
    if blocks.whole_count() == 0:
        return ()
    return tuple(blocks.last_of_block(0, blocks.last))


def least_rounds(chain):
    """The fewest rounds of merges, no two with a neighbour in common, to one text; None without a text."""
    blocks = Blocks(need_chain(chain))
    rounds = {}
    # Shorter blocks were put ahead: the last base merges in a round of its own, what is beside it comes in rounds both.
    for begin, end in blocks.counts:
        parts = [max(rounds[(begin, place - 1)], rounds[(place + 1, end)])
                 for place in blocks.last_of_block(begin, end)]
        rounds[(begin, end)] = 1 + min(parts) if parts else 0
    return rounds.get((0, blocks.last))


def branch_begins(chain):
    """The places of texts that can be merged with the next base and text, ahead or behind, until all is one text."""
    blocks = Blocks(need_chain(chain))
    reached = {}
    if blocks.whole_count() > 0:
        reached[(0, blocks.last)] = True
    for begin, end in list(blocks.counts)[::-1]:
        if (begin, end) in reached and begin < end:
            for shorter in ((begin + 2, end), (begin, end - 2)):
                if shorter in blocks.counts:
                    reached[shorter] = True
    return tuple([place for place in range(0, blocks.last + 1, 2) if (place, place) in reached])
