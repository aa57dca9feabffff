"""Ways along ties (place, letter, place): what is reached, the first and last ways, texts that take every tie."""


def ties_by_begin(ties):
    """For each place the ties that leave it, in the order of the ties."""
    found = {}
    for tie in ties:
        found.setdefault(tie[0], []).append(tie)
    return found


def turned_ties(ties):
    """The ties backwards."""
    return [(end, letter, begin) for begin, letter, end in ties]


def steps_to_places(begins, ties):
    """For each place that is reached from one of these the least number of ties, nearer places first."""
    onward = ties_by_begin(ties)
    steps = {place: 0 for place in begins}
    waiting = list(steps)
    at = 0
    while at < len(waiting):
        place = waiting[at]
        at += 1
        for tie in onward.get(place, []):
            if tie[2] not in steps:
                steps[tie[2]] = steps[place] + 1
                waiting.append(tie[2])
    return steps


def useful_places(start, ties, ends):
    """The places on ways from the start to an end."""
    ahead = steps_to_places([start], ties)
    behind = steps_to_places(ends, turned_ties(ties))
    return {place: True for place in ahead if place in behind}


def ties_within(ties, places):
    """The ties between these places, ascending."""
    return sorted([tie for tie in ties if tie[0] in places and tie[2] in places])


def first_ways_along(start, ties):
    """The first ways from the start along ascending ties, by places as they are reached, and the ties taken last."""
    onward = ties_by_begin(ties)
    ways = {start: ()}
    last_ties = {}
    waiting = [start]
    at = 0
    while at < len(waiting):
        place = waiting[at]
        at += 1
        for tie in onward.get(place, []):
            if tie[2] not in ways:
                ways[tie[2]] = ways[place] + (tie[1],)
                last_ties[tie] = True
                waiting.append(tie[2])
    return ways, last_ties


def last_ways_along(ends, ties):
    """For each place from which an end is reached the first text that leads there."""
    onward = ties_by_begin(ties)
    steps = steps_to_places(ends, turned_ties(ties))
    ways = {}
    for place in steps:
        if steps[place] == 0:
            ways[place] = ()
        else:
            nearer = [tie for tie in onward[place] if steps.get(tie[2]) == steps[place] - 1]
            ways[place] = min([(letter,) + ways[end] for _, letter, end in nearer])
    return ways


def lot_along(start, ties, ends):
    """Texts of which the same can come as of all that lead from the start to an end, along ascending useful ties.

    These are the first ways to the ends and, for each tie that no first way takes last, the first way ahead of it and
    the last way behind it: from the ends backwards, each place's first way with its last way can come of them.
    """
    ways, last_ties = first_ways_along(start, ties)
    tails = last_ways_along(ends, ties)
    spare = [tie for tie in ties if tie not in last_ties]
    return [ways[end] for end in ends] + [ways[begin] + (letter,) + tails[end] for begin, letter, end in spare]
