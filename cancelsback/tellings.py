"""Histories that tell told versions only and come to a text that their folded web reads."""

from cancelsback.linkings import FrontClasses
from cancelsback.merges import merged


class Telling:
    """A history in which no text comes twice."""

    def __init__(self, texts):
        self.steps = [("told", text) for text in texts]
        self.numbers = {text: at for at, text in enumerate(texts)}

    def merge_in(self, base, mine, yours):
        """Merges three texts of the history where what comes is not there yet; what comes."""
        came = merged(base, mine, yours)
        if came not in self.numbers:
            self.numbers[came] = len(self.steps)
            self.steps.append(("merge", self.numbers[base], self.numbers[mine], self.numbers[yours]))
        return came

    def history_of(self, text):
        """The steps that this text of the history needs, it last."""
        needed = {self.numbers[text]: True}
        for at in range(len(self.steps) - 1, -1, -1):
            if at in needed and self.steps[at][0] == "merge":
                needed.update({number: True for number in self.steps[at][1:]})
        places = {number: at for at, number in enumerate(sorted(needed))}
        steps = []
        for number in sorted(needed):
            step = self.steps[number]
            steps.append(("merge",) + tuple([places[part] for part in step[1:]]) if step[0] == "merge" else step)
        return tuple(steps)


class RestTelling:
    """A history in which beginnings that are made one come with one common rest behind each of them.

    The pairs made one are told in turn, each by folding or by a rule of links; a history from links of a distance or
    more has merges that go at this distance.
    """

    def __init__(self, texts, joins):
        self.joined = FrontClasses(texts)
        self.telling = Telling(texts)
        self.rests = {}
        for text in texts:
            for length in range(len(text) + 1):
                known = self.rests.get(text[:length])
                if known is None or len(text) - length < len(known):
                    self.rests[text[:length]] = text[length:]
        for one, other in joins:
            self.join_fronts(one, other)
        # For each class and letter one of its beginnings that goes on by this letter.
        self.onward = {(self.joined.classes[front[:-1]], front[-1]): front[:-1] for front in self.joined.fronts[1:]}

    def join_fronts(self, one, other):
        """Gives the shorter of two rests to all beginnings that are one with either, by one merge each."""
        if len(self.rests[other]) < len(self.rests[one]):
            one, other = other, one
        rest, old = self.rests[one], self.rests[other]
        base, mine = self.change_between(one, other)
        came = self.telling.merge_in(base, mine, one + rest)
        for front in self.joined.members[self.joined.classes[other]]:
            if front != other:
                self.telling.merge_in(other + old, front + old, came)
            self.rests[front] = rest
        self.joined.make_one(one, other)

    def change_between(self, one, other):
        """Two texts that come, with one end behind the two beginnings, or behind what one letter leads to them from."""
        if one in self.joined.texts and other in self.joined.texts:
            return one, other
        if one and other and one[-1] == other[-1] and self.joined.are_one(one[:-1], other[:-1]):
            return self.end_behind(one[:-1]), self.end_behind(other[:-1])
        classes = self.joined.classes
        longer = [front for front in self.joined.fronts if front and front[:-1] == one]
        letters = [front[-1] for front in longer if classes[front] == classes.get(other + front[-1:])]
        return self.end_behind(one + (letters[0],)), self.end_behind(other + (letters[0],))

    def end_behind(self, front):
        """The beginning with its rest."""
        return front + self.rests[front]

    def come_to(self, text):
        """The history of a text to which letters lead along what is made one."""
        pairs = self.fronts_along(text)
        came = pairs[-1][0]
        for at in range(len(text) - 1, -1, -1):
            here, onward = pairs[at]
            came = self.telling.merge_in(self.end_behind(onward), self.end_behind(here), onward + text[at:])
        return self.telling.history_of(came)

    def fronts_along(self, text):
        """For each length: the beginning reached by its letters, and one that is one with it and goes on."""
        pairs = []
        here = ()
        for letter in text:
            goes_on = here + (letter,) in self.joined.classes
            own = here if goes_on else self.onward[(self.joined.classes[here], letter)]
            pairs.append((here, own))
            here = own + (letter,)
        return pairs + [(here, here)]
