"""Tells by which merges a bag comes, without a debt on the way."""

from cancelsback.lattices import less, multiples_for


def put_on(maker, one, other, times):
    """What is made of one when what the other one has more is put on so many times, by merges of the maker."""
    if times == 0:
        return one
    bits = []
    while times > 1:
        bits.append(times % 2)
        times = times // 2
    result = other
    for bit in bits[::-1]:
        result = maker.merge(one, result, result)
        if bit == 1:
            result = maker.merge(one, result, other)
    return result


def node_of(world, bag):
    """The number of a world's bag for one that can come, made in the world if need be; debts may be in free letters."""
    if bag in world.bags:
        return world.bags.index(bag)
    node = world.tight_rows[world.tight_of(bag)]
    wanted = world.free_of(less(bag, world.bags[node]))
    rows = [world.free_of(less(world.bags[one], world.bags[other])) for one, other in world.twins]
    for twin, times in zip(list(world.twins), multiples_for(rows, wanted)):
        one, other = twin if times > 0 else twin[::-1]
        node = world.merge(other, node, put_on(world, other, one, abs(times)))
    return node


class BagTale:
    """The steps of a history, each bag told or made once."""

    def __init__(self, world):
        self.world = world
        self.steps = []
        self.bags = []
        self.places = {}
        self.ladders = []

    def tell(self, bag):
        """The number of the step that tells the bag."""
        return self.note_bag(bag, ("told", bag))

    def merge(self, base, mine, yours):
        """The number of the step that makes mine less base and yours."""
        whole = zip(self.bags[base], self.bags[mine], self.bags[yours])
        bag = tuple([kept - gone + came for gone, kept, came in whole])
        return self.note_bag(bag, ("merge", base, mine, yours))

    def note_bag(self, bag, step):
        """The number of the first step that brings the bag, which is this one if there is none yet."""
        if bag not in self.places:
            self.places[bag] = len(self.steps)
            self.steps.append(step)
            self.bags.append(bag)
        return self.places[bag]

    def needed_nodes(self, nodes):
        """Ascending, the world's bags of which these are made, and these."""
        needed = {node: True for node in nodes}
        for node in range(max(nodes), -1, -1):
            if node in needed:
                for part in self.world.made[node]:
                    needed[part] = True
        return sorted(needed)

    def debt_times(self, needed, rise):
        """The least number of times that a rise has to be put on, for no debt to be left in any bag."""
        times = 0
        for node in needed:
            for number, more in zip(self.world.bags[node], rise):
                if number < 0:
                    times = max(times, -(number // more))
        return times

    def retell(self, nodes, level):
        """Makes these bags, all raised alike so that nothing owes; (their steps, what one told bag is raised by).

        What they are raised by is a pair of steps: the second one's bag less the first one's.
        """
        needed = self.needed_nodes(nodes)
        pair = (0, 0)
        if level > 0:
            low, high = self.ladders[level - 1]
            times = self.debt_times(needed, less(self.bags[high], self.bags[low]))
            pair = (low, put_on(self, low, high, times))
        made = {}
        for node in needed:
            parts = self.world.made[node]
            if parts:
                made[node] = self.merge(made[parts[0]], made[parts[1]], made[parts[2]])
            else:
                told = self.tell(self.world.bags[node])
                made[node] = told if pair[0] == pair[1] else self.merge(pair[0], told, pair[1])
        return [made[node] for node in nodes], pair

    def build_ladder(self, level):
        """Makes two bags of which the second one has more of each letter that was free from this level on."""
        low, high = self.retell(list(self.world.lifts[level]), level)[0]
        if level > 0:
            begin, end = self.ladders[level - 1]
            rise = less(self.bags[end], self.bags[begin])
            lacks = less(self.bags[low], self.bags[high])
            times = [lack // more + 1 for lack, more in zip(lacks, rise) if more > 0]
            high = self.merge(begin, high, put_on(self, begin, end, max([0] + times)))
        self.ladders.append((low, high))


def history_of(world, bag):
    """The steps that bring a bag which can come."""
    tale = BagTale(world)
    node = node_of(world, bag)
    for level in range(len(world.lifts)):
        tale.build_ladder(level)
    made, pair = tale.retell([node], len(world.lifts))
    tale.merge(pair[1], made[0], pair[0])
    return tuple(tale.steps[:tale.places[bag] + 1])
