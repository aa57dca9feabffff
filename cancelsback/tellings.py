"""Histories that tell told versions only and come to a text that their folded web reads."""

from cancelsback.foldings import TextFolding
from cancelsback.merges import merged


class Telling:
    """A history in which no text comes twice."""

    def __init__(self, texts):
        self.steps = [("told", text) for text in texts]
        self.numbers = {text: at for at, text in enumerate(texts)}

    def merge_in(self, base, mine, yours):
        """Merges three texts of the history where what comes is not there yet; what comes."""
        came = merged(base, mine, yours)
        if came not in self.numbers:
            self.numbers[came] = len(self.steps)
            self.steps.append(("merge", self.numbers[base], self.numbers[mine], self.numbers[yours]))
        return came

    def history_of(self, text):
        """The steps that this text of the history needs, it last."""
        needed = {self.numbers[text]: True}
        for at in range(len(self.steps) - 1, -1, -1):
            if at in needed and self.steps[at][0] == "merge":
                needed.update({number: True for number in self.steps[at][1:]})
        places = {number: at for at, number in enumerate(sorted(needed))}
        steps = []
        for number in sorted(needed):
            step = self.steps[number]
            steps.append(("merge",) + tuple([places[part] for part in step[1:]]) if step[0] == "merge" else step)
        return tuple(steps)


class RestTelling:
    """A history in which beginnings that folding makes one come with one common rest behind each of them."""

    def __init__(self, texts):
        self.folded = TextFolding(texts, False)
        self.telling = Telling(texts)
        self.rests = {}
        for text in texts:
            for length in range(len(text) + 1):
                known = self.rests.get(text[:length])
                if known is None or len(text) - length < len(known):
                    self.rests[text[:length]] = text[length:]
        self.classes = {front: at for at, front in enumerate(self.folded.fronts)}
        self.members = [[front] for front in self.folded.fronts]
        for one, other in self.folded.joined_fronts():
            self.join_fronts(one, other)

    def join_fronts(self, one, other):
        """Gives the shorter of two rests to all beginnings that are one with either, by one merge each."""
        if len(self.rests[other]) < len(self.rests[one]):
            one, other = other, one
        rest, old = self.rests[one], self.rests[other]
        base, mine = self.change_between(one, other)
        came = self.telling.merge_in(base, mine, one + rest)
        gone = self.classes[other]
        for front in self.members[gone]:
            if front != other:
                self.telling.merge_in(other + old, front + old, came)
            self.rests[front] = rest
            self.classes[front] = self.classes[one]
        self.members[self.classes[one]] = self.members[self.classes[one]] + self.members[gone]

    def change_between(self, one, other):
        """Two texts that come, with one end behind the two beginnings, or behind what one letter leads to them from."""
        if one in self.folded.texts and other in self.folded.texts:
            return one, other
        if one and other and one[-1] == other[-1] and self.classes[one[:-1]] == self.classes[other[:-1]]:
            return self.end_behind(one[:-1]), self.end_behind(other[:-1])
        longer = [front for front in self.folded.fronts if front and front[:-1] == one]
        letters = [front[-1] for front in longer if self.classes[front] == self.classes.get(other + front[-1:])]
        return self.end_behind(one + (letters[0],)), self.end_behind(other + (letters[0],))

    def end_behind(self, front):
        """The beginning with its rest."""
        return front + self.rests[front]

    def come_to(self, text):
        """The history of a text that the folded web reads."""
        pairs = self.fronts_along(text)
        came = pairs[-1][0]
        for at in range(len(text) - 1, -1, -1):
            here, onward = pairs[at]
            came = self.telling.merge_in(self.end_behind(onward), self.end_behind(here), onward + text[at:])
        return self.telling.history_of(came)

    def fronts_along(self, text):
        """For each length: the beginning reached by its letters, and one that is one with it and goes on."""
        points = self.folded.points
        pairs = []
        here = ()
        for letter in text:
            own, far = points.sides[0][self.folded.root_of(here)][letter]
            pairs.append((here, self.folded.fronts[own]))
            here = self.folded.fronts[far]
        return pairs + [(here, here)]
