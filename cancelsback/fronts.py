"""Beginnings of told versions, ties between them, and what leads along these."""


def beginnings_of(texts):
    """All beginnings of texts, the empty and the whole ones too, ascending."""
    return sorted({text[:length]: True for text in texts for length in range(len(text) + 1)})


class FrontNet:
    """The fronts of versions by number, with ties that have weights; what is not reached is left out."""

    def __init__(self, versions):
        self.fronts = beginnings_of(versions)
        self.numbers = {front: at for at, front in enumerate(self.fronts)}
        self.ends = [self.numbers[text] for text in versions]
        self.letters = sorted({text[-1] for text in self.fronts if text})
        self.spreads = [{at: 0} for at in range(len(self.fronts))]

    def step(self, place, letter):
        """The front with this letter more, None if there is none."""
        return self.numbers.get(self.fronts[place] + (letter,))

    def tie_up(self, ties):
        """Takes ties {(front, front): weight} and tells for each front the lightest ways of no letters."""
        many = len(self.fronts)
        spreads = [{at: 0} for at in range(many)]
        for begin, end in ties:
            spreads[begin][end] = ties[(begin, end)]
        for middle in range(many):
            onward = spreads[middle]
            for begin in range(many):
                row = spreads[begin]
                if middle in row and begin != middle:
                    lay_over(row, onward, row[middle])
        self.spreads = spreads

    def tied(self, begin, end):
        """The weight of the lightest way of no letters, None if there is none."""
        return self.spreads[begin].get(end)

    def spread(self, weights):
        """The lightest weights behind any ties."""
        reached = {}
        for place in weights:
            lay_over(reached, self.spreads[place], weights[place])
        return reached

    def move(self, weights, letter):
        """The weights behind one letter."""
        moved = {}
        for place in weights:
            end = self.step(place, letter)
            if end is not None:
                moved[end] = weights[place]
        return moved

    def layers(self, place, word):
        """The lightest weights from a front behind none, one, two, .. letters of the word."""
        weights = self.spread({place: 0})
        rows = [weights]
        for letter in word:
            weights = self.spread(self.move(weights, letter))
            rows.append(weights)
        return rows

    def weigh_to_ends(self, word):
        """For each front from which the word leads to a version the lightest weight."""
        ends = {end: True for end in self.ends}
        weights = {}
        for place in range(len(self.fronts)):
            found = [self.spreads[place][end] for end in self.spreads[place] if end in ends]
            if found:
                weights[place] = min(found)
        for letter in word[::-1]:
            weights = self.weigh_letter(weights, letter)
        return weights

    def weigh_letter(self, weights, letter):
        """The lightest weights with any ties and this letter put ahead."""
        ahead = {}
        for place in range(len(self.fronts)):
            end = self.step(place, letter)
            if end is not None and end in weights:
                ahead[place] = weights[end]
        found = {}
        for place in range(len(self.fronts)):
            sums = [self.spreads[place][end] + ahead[end] for end in self.spreads[place] if end in ahead]
            if sums:
                found[place] = min(sums)
        return found

    def least_end(self, weights):
        """The version's front with the least weight, None if none is reached."""
        best = None
        for end in self.ends:
            if end in weights and (best is None or weights[end] < weights[best]):
                best = end
        return best

    def leads(self, word):
        """The lightest weight of the word from the empty front to a version, None if it does not lead there."""
        weights = self.layers(0, word)[-1]
        end = self.least_end(weights)
        return None if end is None else weights[end]

    def ties_of_run(self, place, word, end):
        """The unlike ties of a lightest run of the word from a front to another one, in their order."""
        rows = self.layers(place, word)
        ties = []
        for at in range(len(word), -1, -1):
            weight = rows[at][end]
            before = {place: 0} if at == 0 else self.move(rows[at - 1], word[at - 1])
            # One of the fronts reached by the letter alone has just the weight that its way onward leaves.
            begin = min([front for front in before if self.fits(before, front, end, weight)])
            if begin != end:
                ties.append((begin, end))
            if at > 0:
                end = self.numbers[self.fronts[begin][:-1]]
        return ties[::-1]

    def fits(self, weights, begin, end, weight):
        """Whether a lightest way of this weight goes through the front at which the ties begin."""
        onward = self.tied(begin, end)
        return onward is not None and weights[begin] + onward == weight


def lay_over(row, onward, weight):
    """Lowers the weights of a row to those of ways onward, put on a weight."""
    for end in onward:
        total = weight + onward[end]
        if end not in row or total < row[end]:
            row[end] = total


def wanted_ties(net, bases):
    """For each base and cut the weights of what is ahead (to fronts) and behind (from fronts): both ask for ties."""
    wanted = []
    for base in bases:
        rows = net.layers(0, base)
        for cut in range(len(base) + 1):
            wanted.append((base, cut, rows[cut], net.weigh_to_ends(base[cut:])))
    return wanted


def least_ties(versions, bases):
    """The net of versions with the closed ties of the least fair weights."""
    net = FrontNet(versions)
    ties = {}
    grown = True
    while grown:
        grown = False
        for _, _, ahead, behind in wanted_ties(net, bases):
            for begin in behind:
                for end in ahead:
                    weight = 1 + behind[begin] + ahead[end]
                    known = net.tied(begin, end)
                    if known is None or weight < known:
                        if (begin, end) not in ties or weight < ties[(begin, end)]:
                            ties[(begin, end)] = weight
                            grown = True
        net.tie_up(ties)
    return net


def weighted_ties(net):
    """All unlike fronts of which ties lead from one to the other, with the weight of the lightest way."""
    ties = []
    for begin, front in enumerate(net.fronts):
        for end in sorted(net.spreads[begin]):
            if begin != end:
                ties.append((front, net.fronts[end], net.spreads[begin][end]))
    return tuple(ties)


def fair_ties(net, bases):
    """Whether the ties of a net are closed and their weights are fair."""
    for _, _, ahead, behind in wanted_ties(net, bases):
        for begin in behind:
            for end in ahead:
                weight = net.tied(begin, end)
                if weight is None or weight > 1 + behind[begin] + ahead[end]:
                    return False
    return True
