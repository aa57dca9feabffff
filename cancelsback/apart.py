"""What comes at each distance: the fewest told versions for it, the reaches that occur, rings at a distance."""

from cancelsback.checks import is_integer, need_told
from cancelsback.distances import need_distance
from cancelsback.errors import InvalidSize
from cancelsback.fewest import shorter_first
from cancelsback.linkings import LinkedWeb, links_of, longest_length
from cancelsback.rings import MoveWeb
from cancelsback.ways import lot_along


def webs_at_distances(texts):
    """For each distance from 0 to the longest version's length what leads at it."""
    links = links_of(texts)
    return [LinkedWeb(texts, links, distance) for distance in range(longest_length(texts) + 1)]


def fewest_apart(texts):
    """For each distance to the longest version's length the fewest told versions of which just the same comes."""
    webs = webs_at_distances(need_told(texts))
    return tuple([len(web.moves) + len(web.ends) - web.place_count() + 1 for web in webs])


def apart_lot(texts, distance):
    """Some so many told versions of which just the same comes at this distance."""
    texts = need_told(texts)
    need_distance(distance)
    web = LinkedWeb(texts, links_of(texts), distance)
    return shorter_first(lot_along(web.start, web.linked_ties(), web.ends))


def rising_texts(distance, many):
    """So many told versions of which up to this distance three are the fewest, beyond it all."""
    need_distance(distance)
    if not is_integer(many) or many < 3:
        raise InvalidSize("many")
    # Between all letters stand as many fillers: at the distance all is made of the first three, one step farther the
    # letter ahead of the fillers tells too, and so do two unlike letters in the midst of as many alike ones each.
    between = (4,) * distance
    rows = [(), (2,), (3,)] + [(2,) * half + (3,) * half for half in range(1, many - 2)]
    return shorter_first([filled((0,) + row + (1,), between) for row in rows])


def filled(letters, between):
    """The letters with fillers between each two neighbours."""
    text = letters[:1]
    for letter in letters[1:]:
        text = text + between + (letter,)
    return text


def first_between(web, closer):
    """The first text that leads along one web, and not along one of a greater distance; None if there is none."""
    letters = sorted(set([letter for _, letter in web.moves]))
    begin = (web.start, closer.start)
    seen = set()
    seen.add(begin)
    waiting = [(begin, ())]
    at = 0
    while at < len(waiting):
        (place, twin), text = waiting[at]
        at += 1
        if place in web.ends and twin not in closer.ends:
            return text
        for letter in letters:
            pair = (web.moves.get((place, letter)), closer.moves.get((twin, letter)))
            if pair[0] is not None and pair not in seen:
                seen.add(pair)
                waiting.append((pair, text + (letter,)))
    return None


def reach_steps(texts):
    """Each number that is some text's reach, with the first such text."""
    webs = webs_at_distances(need_told(texts))
    steps = []
    for distance in range(len(webs) - 1):
        text = first_between(webs[distance], webs[distance + 1])
        if text is not None:
            steps.append((distance, text))
    return tuple(steps)


def moves_of_linked(web):
    """The places of a linked web as moves from place 0."""
    numbers = {web.start: 0}
    for begin, letter in web.moves:
        numbers.setdefault(begin, len(numbers))
        numbers.setdefault(web.moves[(begin, letter)], len(numbers))
    moves = [{} for _ in numbers]
    for begin, letter in web.moves:
        moves[numbers[begin]][letter] = numbers[web.moves[(begin, letter)]]
    ends = {numbers[place]: True for place in web.ends}
    return MoveWeb(moves, [at in ends for at in range(len(numbers))])


def ring_apart(texts):
    """The greatest distance at which endlessly many texts come, with head, ring and tail, or None."""
    webs = webs_at_distances(need_told(texts))
    for distance in range(len(webs) - 1, -1, -1):
        ring = moves_of_linked(webs[distance]).ring_or_none()
        if ring is not None:
            return (distance,) + ring
    return None
