"""Weighed webs: letters lead along ties with weights; told changes put in front or behind weigh at most one more."""

from cancelsback.fronts import beginnings_of
from cancelsback.merges import end_length, front_length
from cancelsback.ways import steps_to_places, turned_ties


def lower(weights, place, weight):
    """Lowers the weight of a place to this one; whether it was greater, or none."""
    if place in weights and weights[place] <= weight:
        return False
    weights[place] = weight
    return True


class WeighedWeb:
    """Weights of starts, of ends, and of ties by letter, place and place."""

    def __init__(self):
        self.start_weights = {}
        self.end_weights = {}
        # For each letter its ties ahead {begin: {end: weight}}, and the same ones backwards.
        self.ahead = {}
        self.backwards = {}

    def lower_tie(self, begin, letter, end, weight):
        """Lowers the weight of a tie to this one; whether it was greater, or none."""
        lower(self.backwards.setdefault(letter, {}).setdefault(end, {}), begin, weight)
        return lower(self.ahead.setdefault(letter, {}).setdefault(begin, {}), end, weight)

    def weights_behind(self, text):
        """For each place to which the text leads from starts its least weight."""
        weights = self.start_weights
        for letter in text:
            weights = moved(weights, self.ahead.get(letter, {}))
        return weights

    def weights_ahead(self, text):
        """For each place from which the text leads to ends its least weight."""
        weights = self.end_weights
        for letter in text[::-1]:
            weights = moved(weights, self.backwards.get(letter, {}))
        return weights

    def weight_of(self, text):
        """The least weight of the text from starts to ends, None if it does not lead there."""
        weights = self.weights_behind(text)
        sums = [weights[place] + self.end_weights[place] for place in weights if place in self.end_weights]
        return min(sums) if sums else None

    def tie_rows(self):
        """The ties (place, letter, place, weight), ascending."""
        rows = []
        for letter in self.ahead:
            for begin in self.ahead[letter]:
                row = self.ahead[letter][begin]
                rows.extend([(begin, letter, end, row[end]) for end in row])
        return sorted(rows)

    def triple(self):
        """Starts, ends and ties, ascending, without places that are on no way."""
        rows = self.tie_rows()
        ties = [row[:3] for row in rows]
        ahead = steps_to_places(sorted(self.start_weights), ties)
        behind = steps_to_places(sorted(self.end_weights), turned_ties(ties))
        useful = {place: True for place in ahead if place in behind}
        starts = [(place, self.start_weights[place]) for place in sorted(self.start_weights) if place in useful]
        ends = [(place, self.end_weights[place]) for place in sorted(self.end_weights) if place in useful]
        return tuple(starts), tuple(ends), tuple([row for row in rows if row[0] in useful and row[2] in useful])


def moved(weights, ties):
    """The least weights behind one letter, whose ties are {place: {place: weight}}."""
    found = {}
    for place in weights:
        for end in ties.get(place, {}):
            lower(found, end, weights[place] + ties[place][end])
    return found


def changed_parts(one, other):
    """What of two versions stands behind their longest common front, and what ahead of their longest common end."""
    front, end = front_length(one, other), end_length(one, other)
    return one[front:], other[front:], one[:len(one) - end], other[:len(other) - end]


def change_pairs(texts):
    """The changed parts of each two unlike versions, in either order."""
    return [changed_parts(one, other) for one in texts for other in texts if one != other]


def costly_places(weights, others):
    """For each place where the others weigh more than one more, or do not lead: the weight that they may have."""
    return {place: weights[place] + 1 for place in weights
            if place not in others or others[place] > weights[place] + 1}


def keeps_changes(web, texts):
    """Whether each change put in for another one weighs at most one more, wherever it leads."""
    for tail, other_tail, head, other_head in change_pairs(texts):
        if costly_places(web.weights_ahead(tail), web.weights_ahead(other_tail)):
            return False
        if costly_places(web.weights_behind(head), web.weights_behind(other_head)):
            return False
    return True


class BranchWeb:
    """The weighed web by which each text weighs as many as the fewest steps to it from the sources, told versions.

    To each beginning of a version a place of its own leads, read from the start; each end of one is read from a place
    of its own. All else starts, or goes on, at one of these where a change allows it.
    """

    def __init__(self, texts, sources):
        self.web = WeighedWeb()
        self.pairs = change_pairs(texts)
        fronts = beginnings_of(texts)
        ends = sorted({text[at:]: True for text in texts for at in range(len(text) + 1)})
        self.front_places = {front: at for at, front in enumerate(fronts)}
        self.end_places = {end: at + len(fronts) for at, end in enumerate(ends)}
        self.lead_ahead(self.front_places[()], (), 0)
        self.lead_behind(self.end_places[()], (), 0)
        for front in fronts[1:]:
            self.lead_ahead(self.front_places[front], front, 0)
        for end in ends[1:]:
            self.lead_behind(self.end_places[end], end, 0)
        for text in sources:
            self.lead_behind(self.front_places[()], text, 0)
        grown = True
        while grown:
            grown = self.let_changes_in()

    def lead_behind(self, place, text, weight):
        """Lets the text lead from the place to ends with this weight; whether that is new."""
        if text == ():
            return lower(self.web.end_weights, place, weight)
        return self.web.lower_tie(place, text[0], self.end_places[text[1:]], weight)

    def lead_ahead(self, place, text, weight):
        """Lets the text lead from starts to the place with this weight; whether that is new."""
        if text == ():
            return lower(self.web.start_weights, place, weight)
        return self.web.lower_tie(self.front_places[text[:-1]], text[-1], place, weight)

    def let_changes_in(self):
        """Lets each change lead where another one does, with one more; whether anything is new."""
        grown = False
        for tail, other_tail, head, other_head in self.pairs:
            wanted = costly_places(self.web.weights_ahead(tail), self.web.weights_ahead(other_tail))
            for place in wanted:
                grown = self.lead_behind(place, other_tail, wanted[place]) or grown
            wanted = costly_places(self.web.weights_behind(head), self.web.weights_behind(other_head))
            for place in wanted:
                grown = self.lead_ahead(place, other_head, wanted[place]) or grown
        return grown
