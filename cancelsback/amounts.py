"""Bags: what can come of numbers of letters by merges, and what is lost."""

from cancelsback.bagtales import history_of
from cancelsback.bagworlds import BagWorld
from cancelsback.checks import is_integer, is_number, is_sequence, need_text
from cancelsback.errors import InvalidBag, InvalidBags, InvalidSize
from cancelsback.lattices import Lattice, less

MOST_LETTERS = 4


def bag_or_none(value, letters):
    """The bag as a tuple, None if it is none with so many letters."""
    if not is_sequence(value) or len(value) != letters:
        return None
    if not all([is_number(number) for number in value]):
        return None
    return tuple(value)


def letters_of(value):
    """How many letters a first bag has, 0 if the value is none."""
    if not is_sequence(value) or len(value) > MOST_LETTERS:
        return 0
    return len(value)


def need_bags(values):
    """The told bags as a tuple."""
    if not is_sequence(values) or len(values) == 0:
        raise InvalidBags(-1)
    letters = letters_of(values[0])
    bags = []
    for at, value in enumerate(values):
        bag = bag_or_none(value, letters)
        if letters == 0 or bag is None or bag in bags:
            raise InvalidBags(at)
        bags.append(bag)
    return tuple(bags)


def need_bag(value, letters, at):
    """The bag with so many letters as a tuple."""
    bag = bag_or_none(value, letters)
    if bag is None:
        raise InvalidBag(at)
    return bag


def bag_merge(base, mine, yours):
    """Mine less base and yours, None if a number would be below 0."""
    letters = letters_of(base)
    if letters == 0:
        raise InvalidBag(0)
    base, mine, yours = need_bag(base, letters, 0), need_bag(mine, letters, 1), need_bag(yours, letters, 2)
    bag = tuple([mine[at] - base[at] + yours[at] for at in range(letters)])
    return None if min(bag) < 0 else bag


def text_bag(text, letters):
    """How many there are of each letter of the text."""
    text = need_text(text, -1)
    if not is_integer(letters) or letters < 1 or letters > MOST_LETTERS or letters <= max((-1,) + text):
        raise InvalidSize("letters")
    return tuple([text.count(letter) for letter in range(letters)])


def grown_world(bags):
    """The world of told bags with all that can come."""
    world = BagWorld(bags)
    world.grow(None)
    return world


def bags_form(bags):
    """The free letters, the group of what can be put on to all, and the rows of tight numbers with their rests."""
    world = grown_world(need_bags(bags))
    free = tuple([letter for letter in range(world.letters) if world.is_free[letter]])
    rows = []
    for tight in sorted(world.tight_rows):
        known = world.bags[world.tight_rows[tight]]
        rows.append((tight, world.group.rest_of(world.free_of(known))))
    return free, world.group.tidy_rows(), tuple(rows)


def bags_bring(bags, bag):
    """Whether the bag can come of the told ones."""
    bags = need_bags(bags)
    bag = need_bag(bag, len(bags[0]), -1)
    world = BagWorld(bags)
    return world.grow(bag) or world.brings(bag)


def bag_history(bags, bag):
    """Steps that tell told bags and merge, the last of which brings the bag; None if it cannot come."""
    bags = need_bags(bags)
    bag = need_bag(bag, len(bags[0]), -1)
    world = BagWorld(bags)
    if world.grow(bag) or world.brings(bag):
        return history_of(world, bag)
    return None


def differences(bags):
    """All that sums of the told ones can differ by."""
    lattice = Lattice(len(bags[0]))
    for bag in bags:
        lattice.take_row(less(bag, bags[0]))
    return lattice


def is_sum(bags, bag):
    """Whether sums of bags that are surely told ones reach the bag."""
    return differences(bags).holds_row(less(bag, bags[0]))


def sums_reach(bags, bag):
    """Whether the bag is a sum of the told ones, each an integer number of times, together once."""
    bags = need_bags(bags)
    return is_sum(bags, need_bag(bag, len(bags[0]), -1))


def lost_bags(bags, most):
    """Ascending, what sums reach and what cannot come, without a number above the most."""
    bags = need_bags(bags)
    if not is_number(most):
        raise InvalidSize("most")
    world = grown_world(bags)
    return tuple([bag for bag in differences(bags).rows_between(bags[0], most) if not world.brings(bag)])


def least_debt(bags, bag):
    """The least debt with which the bag can come, None if sums do not reach it."""
    bags = need_bags(bags)
    bag = need_bag(bag, len(bags[0]), -1)
    if not is_sum(bags, bag):
        return None
    world = BagWorld(bags)
    while not (world.grow(bag) or world.brings(bag)):
        world.debt += 1
    return world.debt
