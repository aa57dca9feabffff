"""Distances: how many lines stay untouched between both changes of a merge, and what is made one at them."""

from cancelsback.chains import merged_over, need_chain
from cancelsback.checks import is_number, need_any_versions, need_three_texts, need_told
from cancelsback.errors import InvalidSize
from cancelsback.linkings import FrontClasses, are_links, links_of
from cancelsback.merges import cut_bounds

MOST_WINDOWS = 100


def reach_of_merge(base, mine, yours):
    """The greatest distance at which the merge goes; -1 for none, None for every one."""
    if base in (mine, yours):
        return None
    least, greatest = cut_bounds(base, mine, yours)
    return max(greatest - least, -1)


def lesser_reach(one, other):
    """The lesser one of two reaches, None the greatest."""
    if one is None or other is None:
        return other if one is None else one
    return min(one, other)


def merge_reach(base, mine, yours):
    """The greatest distance at which the merge goes; -1 for none, None for every one."""
    base, mine, yours = need_three_texts(base, mine, yours)
    return reach_of_merge(base, mine, yours)


def farthest_base(chain):
    """The place of a base with the greatest reach, and this."""
    best = 1
    best_reach = -1
    for place in range(1, len(chain), 2):
        reach = reach_of_merge(chain[place], chain[place - 1], chain[place + 1])
        if reach is None:
            return place, None
        if reach > best_reach:
            best = place
            best_reach = reach
    return best, best_reach


def chain_reach(chain):
    """The greatest distance at which all bases can be merged, one after another."""
    chain = need_chain(chain)
    least = None
    while len(chain) > 1:
        place, reach = farthest_base(chain)
        if reach == -1:
            return -1
        least = lesser_reach(least, reach)
        chain = chain[:place - 1] + (merged_over(chain, place),) + chain[place + 2:]
    return least


def need_distance(distance):
    """Raises where this is no number."""
    if not is_number(distance):
        raise InvalidSize("distance")


def windows_of(text, distance):
    """The row of windows (kind, lines) of a version."""
    if len(text) < distance:
        return [(0, text)]
    between = [(2, text[at:at + distance + 1]) for at in range(len(text) - distance)]
    return [(1, text[:distance])] + between + [(3, text[len(text) - distance:])]


def window_texts(versions, distance):
    """For each version the numbers of its windows, among the unlike windows of all."""
    versions = need_any_versions(versions)
    need_distance(distance)
    rows = [windows_of(text, distance) for text in versions]
    windows = sorted({window: True for row in rows for window in row})
    if len(windows) > MOST_WINDOWS:
        raise InvalidSize("windows")
    numbers = {window: at for at, window in enumerate(windows)}
    return tuple([tuple([numbers[window] for window in row]) for row in rows])


def front_links(texts):
    """Links of beginnings made one, each at the greatest distance at which there are such, to the end."""
    return links_of(need_told(texts))


def links_hold(texts, value):
    """Whether any value tells such links, each due at its turn, to the end."""
    classes = FrontClasses(need_told(texts))
    if not are_links(classes, value):
        return False
    level = None
    for one, other, distance in value:
        if level is None or distance < level:
            # What is due at a greater distance has to come first; below it the links at hand make nothing due there.
            if classes.pairs_due(distance + 1):
                return False
            level = distance
        if distance > level or classes.are_one(one, other) or not classes.is_due(one, other, distance):
            return False
        classes.make_one(one, other)
    return not classes.pairs_due(0)
