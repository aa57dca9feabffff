"""Webs: places with ties by letters, told versions and machines folded to webs."""

from cancelsback.checks import is_integer, is_letter, is_number_below, is_row_of, is_sequence, is_text_paper
from cancelsback.checks import is_tuple_of, need_text, need_told
from cancelsback.errors import InvalidEnds, InvalidLetter, InvalidPlace, InvalidSize, InvalidTies, InvalidWeb
from cancelsback.foldings import Folding, TextFolding
from cancelsback.fronts import beginnings_of
from cancelsback.ways import first_ways_along, lot_along, ties_within, useful_places
from cancelsback.words import need_word


def need_places(places):
    """Raises where this is no number of places."""
    if not is_integer(places) or places < 1:
        raise InvalidSize("places")


def is_tie(value, places):
    """Whether it is (place, letter, place)."""
    if not is_row_of(value, 3) or not is_letter(value[1]):
        return False
    return is_number_below(value[0], places) and is_number_below(value[2], places)


def need_ties(values, places, once):
    """The unlike ties, ascending; where `once` holds each letter leads from one to one, and to one from one."""
    if not is_sequence(values):
        raise InvalidTies(-1)
    seen = set()
    ties = []
    for at, value in enumerate(values):
        if not is_tie(value, places):
            raise InvalidTies(at)
        begin, letter, end = value
        marks = [(0, begin, letter), (1, letter, end)] if once else [(begin, letter, end)]
        for mark in marks:
            if mark in seen:
                raise InvalidTies(at)
            seen.add(mark)
        ties.append((begin, letter, end))
    return sorted(ties)


def need_place(value, places, name):
    """Raises where this is no place."""
    if not is_number_below(value, places):
        raise InvalidPlace(name)


class Web:
    """Places with ties by which each letter leads from one place to one, and to one from one; all on ways."""

    def __init__(self, places, ties, start, end):
        need_places(places)
        self.places = places
        self.ties = tuple(need_ties(ties, places, True))
        need_place(start, places, "start")
        need_place(end, places, "end")
        self.start = start
        self.end = end
        useful = useful_places(start, self.ties, [end])
        if len(useful) < places:
            raise InvalidWeb(least_left_out(useful))
        self.ends_ahead = {(begin, letter): to for begin, letter, to in self.ties}
        self.begins_back = {(to, letter): begin for begin, letter, to in self.ties}

    def __eq__(self, other):
        if not isinstance(other, Web):
            return False
        if self.places != other.places or self.ties != other.ties:
            return False
        return self.start == other.start and self.end == other.end

    def step_ahead(self, place, letter):
        """The place to which the tie of this letter leads, or None."""
        need_place(place, self.places, -1)
        need_letter(letter)
        return self.ends_ahead.get((place, letter))

    def step_back(self, place, letter):
        """The place from which the tie of this letter leads here, or None."""
        need_place(place, self.places, -1)
        need_letter(letter)
        return self.begins_back.get((place, letter))


def need_letter(value):
    """Raises where this is no letter."""
    if not is_letter(value):
        raise InvalidLetter(-1)


def least_left_out(places):
    """The least number that is none of these places."""
    at = 0
    while at in places:
        at += 1
    return at


def need_web(value, at):
    """Raises where this is no web."""
    if not isinstance(value, Web):
        raise InvalidWeb(at)


def place_behind(web, word):
    """The place to which a word that is surely one leads from the start, or None."""
    return place_from(web, web.start, word)


def place_from(web, place, word):
    """The place to which a word that is surely one leads from a place, or None."""
    for letter, sign in word:
        moves = web.ends_ahead if sign == 1 else web.begins_back
        if (place, letter) not in moves:
            return None
        place = moves[(place, letter)]
    return place


def is_read(web, text):
    """Whether a text that is surely one leads from start to end."""
    return place_behind(web, [(letter, 1) for letter in text]) == web.end


def word_end(web, place, word):
    """The place to which a word leads from a place, or None."""
    need_web(web, -1)
    need_place(place, web.places, -1)
    return place_from(web, place, need_word(word, -1))


def reads_text(web, text):
    """Whether the text leads from start to end."""
    need_web(web, -1)
    return is_read(web, need_text(text, -1))


def web_of_ties(ties, start, end):
    """The plain web of ascending ties whose places are all on ways."""
    ways = first_ways_along(start, ties)[0]
    numbers = {place: at for at, place in enumerate(ways)}
    renamed = [(numbers[begin], letter, numbers[to]) for begin, letter, to in ties]
    return Web(len(numbers), renamed, numbers[start], numbers[end])


def plain_web(web):
    """The web with its places numbered as they are reached."""
    need_web(web, -1)
    return web_of_ties(web.ties, web.start, web.end)


def web_of_texts(texts):
    """The plain folded web of told versions that are surely ones."""
    folded = TextFolding(texts, False)
    return web_of_ties(folded.points.root_ties(), folded.root_of(()), folded.root_of(texts[0]))


def told_web(texts):
    """The plain folded web of told versions."""
    return web_of_texts(need_told(texts))


def need_ends(values, places):
    """One or more unlike ends."""
    if not is_sequence(values) or len(values) == 0:
        raise InvalidEnds(-1)
    seen = set()
    for at, value in enumerate(values):
        if not is_number_below(value, places) or value in seen:
            raise InvalidEnds(at)
        seen.add(value)
    return sorted(seen)


def need_machine(places, ties, start, ends):
    """The ties and the ends of a machine, those on ways from the start to an end."""
    need_places(places)
    ties = need_ties(ties, places, False)
    need_place(start, places, "start")
    ends = need_ends(ends, places)
    useful = useful_places(start, ties, ends)
    return ties_within(ties, useful), [end for end in ends if end in useful]


def folded_web(places, ties, start, ends):
    """The plain folded web of a machine, None if it reads no text."""
    ties, ends = need_machine(places, ties, start, ends)
    if not ends:
        return None
    used = {start: 0}
    for begin, _, to in ties:
        used.setdefault(begin, len(used))
        used.setdefault(to, len(used))
    points = Folding(len(used))
    for begin, letter, to in ties:
        points.tie_up(used[begin], letter, used[to])
    for end in ends[1:]:
        points.link(used[end], used[ends[0]], ())
    points.fold()
    return web_of_ties(points.root_ties(), points.roots[0], points.roots[used[ends[0]]])


def enough_texts(places, ties, start, ends):
    """Texts that the machine reads, of which the same can come as of all that it reads."""
    ties, ends = need_machine(places, ties, start, ends)
    if not ends:
        return ()
    return tuple({text: True for text in lot_along(start, ties, ends)})


def fold_steps(texts):
    """Pairs of beginnings made one, one after another, to the end."""
    return TextFolding(need_told(texts), False).joined_fronts()


def is_front_pair(value, classes):
    """Whether any value is a pair of beginnings."""
    return is_tuple_of(value, 2) and all([is_text_paper(front) and front in classes for front in value])


def is_due(texts, classes, one, other):
    """Whether two beginnings that are not one yet are to be made one."""
    if one in texts and other in texts:
        return True
    if one and other and one[-1] == other[-1] and classes[one[:-1]] == classes[other[:-1]]:
        return True
    for front in classes:
        if front and front[:-1] == one:
            twin = other + front[-1:]
            if twin in classes and classes[front] == classes[twin]:
                return True
    return False


def folds_hold(texts, value):
    """Whether any value tells pairs of beginnings made one, each due at its turn, to the end."""
    texts = need_told(texts)
    if not isinstance(value, tuple):
        return False
    classes = {front: at for at, front in enumerate(beginnings_of(texts))}
    for pair in value:
        if not is_front_pair(pair, classes):
            return False
        kept, gone = classes[pair[0]], classes[pair[1]]
        if kept == gone or not is_due(texts, classes, pair[0], pair[1]):
            return False
        classes = {front: kept if classes[front] == gone else classes[front] for front in classes}
    return len(value) == len(classes) - web_of_texts(texts).places


def unlike_text(one, other):
    """The first text that just one of two webs reads, or None."""
    need_web(one, 0)
    need_web(other, 1)
    letters = sorted({letter for _, letter, _ in one.ties + other.ties})
    begin = (one.start, other.start)
    seen = set()
    seen.add(begin)
    waiting = [(begin, ())]
    at = 0
    while at < len(waiting):
        (place, twin), text = waiting[at]
        at += 1
        if (place == one.end) != (twin == other.end):
            return text
        for letter in letters:
            pair = (one.ends_ahead.get((place, letter)), other.ends_ahead.get((twin, letter)))
            if pair not in seen and pair != (None, None):
                seen.add(pair)
                waiting.append((pair, text + (letter,)))
    return None
