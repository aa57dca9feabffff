"""Places by number with moves by letters, from place 0 on to ends: rings on the way, and how many texts there are."""


class MoveWeb:
    """For each place its moves {letter: place}, and whether it is an end; of each place some end is reached."""

    def __init__(self, moves, are_ends):
        self.moves = moves
        self.are_ends = are_ends

    def shortest_text(self, begin, goals):
        """The first text of one letter or more from a place to one of the goals, and this; None if there is none."""
        reached = {}
        waiting = [(begin, ())]
        at = 0
        while at < len(waiting):
            place, text = waiting[at]
            at += 1
            for letter in sorted(self.moves[place]):
                end = self.moves[place][letter]
                if end in goals:
                    return text + (letter,), end
                if end not in reached:
                    reached[end] = True
                    waiting.append((end, text + (letter,)))
        return None

    def ring_or_none(self):
        """Head, ring and tail of endlessly many texts, None if finitely many come."""
        for place in range(len(self.moves)):
            ring = self.shortest_text(place, (place,))
            head = ((), 0) if place == 0 else self.shortest_text(0, (place,))
            if ring is not None and head is not None:
                return head[0], ring[0], self.tail_of(place)
        return None

    def tail_of(self, place):
        """The first text that leads from a place to an end."""
        if self.are_ends[place]:
            return ()
        return self.shortest_text(place, [end for end, is_end in enumerate(self.are_ends) if is_end])[0]

    def text_count(self):
        """How many texts lead to ends, where finitely many do."""
        counts = {}
        while 0 not in counts:
            for place, row in enumerate(self.moves):
                if place not in counts and all([row[letter] in counts for letter in row]):
                    own = 1 if self.are_ends[place] else 0
                    counts[place] = own + sum([counts[row[letter]] for letter in row])
        return counts[0]
