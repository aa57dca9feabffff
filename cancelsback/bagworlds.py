"""What can come of bags: which letters are free, and what the tight ones can be."""

from cancelsback.lattices import Lattice, less

# So many times more than the numbers at the start can those be that are met in a search.
GROWTH = 1000000


def pack(numbers, digit):
    """The numbers as one integer, to be added fast: sums of packed ones are the packed sums."""
    code = 0
    for number in numbers:
        code = code * digit + number
    return code


def unpack(code, many, digit):
    """The numbers of a packed row, each nearer to 0 than half a digit."""
    numbers = []
    for _ in range(many):
        number = (code + digit // 2) % digit - digit // 2
        numbers.append(number)
        code = (code - number) // digit
    return tuple(numbers[::-1])


def is_at_most(one, other):
    """Whether no number of the one is greater than the other's."""
    for first, second in zip(one, other):
        if first > second:
            return False
    return True


class BagWorld:
    """Bags by number, each told or merged of earlier ones; of free letters there may be debts among them.

    A bag that has in no letter less than another one lets the letters of their difference be put on to
    all, as often as is wanted, and be taken away again: from then on debts of these letters do not matter.
    """

    def __init__(self, told):
        self.letters = len(told[0])
        self.debt = 0
        self.bags = list(told)
        self.made = [()] * len(told)
        self.is_free = [False] * self.letters
        self.group = Lattice(0)
        self.twins = []
        self.lifts = []
        self.tight_rows = {}

    def merge(self, base, mine, yours):
        """The number of a new bag: mine less base and yours."""
        whole = zip(self.bags[base], self.bags[mine], self.bags[yours])
        self.bags.append(tuple([kept - gone + came for gone, kept, came in whole]))
        self.made.append((base, mine, yours))
        return len(self.bags) - 1

    def tight_of(self, bag):
        """The numbers of the tight letters."""
        return tuple([number for number, is_free in zip(bag, self.is_free) if not is_free])

    def free_of(self, bag):
        """The numbers of the free letters."""
        return tuple([number for number, is_free in zip(bag, self.is_free) if is_free])

    def join_twins(self, one, other):
        """Two bags with the same tight numbers: their difference can be put on to all."""
        difference = less(self.free_of(self.bags[one]), self.free_of(self.bags[other]))
        if self.group.take_row(difference):
            self.twins.append((one, other))

    def lift_letters(self, one, other):
        """The other bag has no less of any tight letter: what it has more of is free from now on."""
        self.lifts.append((one, other))
        for letter in range(self.letters):
            if self.bags[other][letter] > self.bags[one][letter]:
                self.is_free[letter] = True
        self.group = Lattice(sum(self.is_free))
        for twin, twin_other in self.twins:
            self.group.take_row(less(self.free_of(self.bags[twin]), self.free_of(self.bags[twin_other])))

    def grow(self, goal):
        """Finds all that can come, or stops as soon as the goal is found; whether it was."""
        while True:
            sweep = BagSweep(self, goal)
            if sweep.run():
                self.tight_rows = sweep.tight_rows
                return sweep.goal_found

    def brings(self, bag):
        """Whether the bag can come, where all that can is known."""
        tight = self.tight_of(bag)
        if tight not in self.tight_rows:
            return False
        known = self.bags[self.tight_rows[tight]]
        return self.group.holds_row(less(self.free_of(bag), self.free_of(known)))


class BagSweep:
    """One search through all that comes of a world's bags, while its free letters stay as they are."""

    def __init__(self, world, goal):
        self.world = world
        self.goal = goal
        self.goal_found = False
        self.tight_rows = {}
        self.codes = []
        self.nodes = []
        # Each difference of two bags is a step that can be put on to any third one.
        self.steps = {}
        self.digit = GROWTH * (1 + max([abs(number) for bag in world.bags for number in bag]))
        self.seen = {pack(world.tight_of(bag), self.digit): True for bag in world.bags}
        self.waiting = list(range(len(world.bags)))

    def run(self):
        """Whether the search came to its end; False if letters became free, which asks for another one."""
        at = 0
        while at < len(self.waiting):
            node = self.waiting[at]
            at += 1
            if self.world.bags[node] == self.goal:
                self.goal_found = True
                return True
            tight = self.world.tight_of(self.world.bags[node])
            if tight in self.tight_rows:
                self.world.join_twins(node, self.tight_rows[tight])
            elif self.lifts_any(node, tight):
                return False
            else:
                self.take_in(node, tight)
        return True

    def lifts_any(self, node, tight):
        """Whether letters became free, as one of two bags has no less of any tight letter."""
        for known in self.tight_rows:
            if is_at_most(known, tight):
                self.world.lift_letters(self.tight_rows[known], node)
                return True
            if is_at_most(tight, known):
                self.world.lift_letters(node, self.tight_rows[known])
                return True
        return False

    def take_in(self, node, tight):
        """Puts the new steps of this bag on to all bags."""
        code = pack(tight, self.digit)
        fresh = self.note_steps(node, code)
        self.tight_rows[tight] = node
        self.codes.append(code)
        self.nodes.append(node)
        # An earlier step put on to this bag is one of its own steps put on to an earlier bag.
        for step in fresh:
            for at, known in enumerate(self.codes):
                if known + step not in self.seen:
                    self.try_sum(self.nodes[at], known + step, step)

    def note_steps(self, node, code):
        """The steps that this bag makes with earlier ones and that are new."""
        fresh = []
        for at, known in enumerate(self.codes):
            other = self.nodes[at]
            if code - known in self.steps:
                self.compare_steps(node, other, self.steps[code - known])
            else:
                self.steps[code - known] = (node, other)
                fresh.append(code - known)
            if known - code not in self.steps:
                self.steps[known - code] = (other, node)
                fresh.append(known - code)
        return fresh

    def compare_steps(self, yours, base, step):
        """Two steps with the same tight numbers: what they differ by in free letters can be put on to all."""
        bags = self.world.bags
        one = less(bags[yours], bags[base])
        other = less(bags[step[0]], bags[step[1]])
        if one == other or self.world.group.holds_row(self.world.free_of(less(one, other))):
            return
        self.world.join_twins(self.world.merge(base, yours, step[1]), step[0])

    def try_sum(self, mine, code, step):
        """Notes what comes of a bag with a step put on, unless a debt is too great."""
        self.seen[code] = True
        numbers = unpack(code, self.world.letters - sum(self.world.is_free), self.digit)
        if min(numbers) >= -self.world.debt:
            yours, base = self.steps[step]
            self.waiting.append(self.world.merge(base, mine, yours))
