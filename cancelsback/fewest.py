"""The fewest told versions of which just this comes: lots that tell a web, needless versions, rows, stand-ins."""

from cancelsback.checks import is_number_below, is_sequence, is_tuple_of, is_word, need_text, need_told
from cancelsback.errors import Refused
from cancelsback.foldings import TextFolding
from cancelsback.histories import is_struck_row, row_product, struck_row
from cancelsback.ways import first_ways_along, last_ways_along, lot_along
from cancelsback.webs import Web, is_read, need_web, web_of_texts


def count_of_web(web):
    """The fewest told versions of which just this web's texts come."""
    return len(web.ties) - web.places + 2


def fewest_count(web):
    """The fewest told versions of which just this web's texts come."""
    need_web(web, -1)
    return count_of_web(web)


def by_place(web, ways):
    """The ways in the order of the web's places."""
    return tuple([ways[place] for place in range(web.places)])


def first_ways(web):
    """For each place the first text that leads from the start to it."""
    need_web(web, -1)
    return by_place(web, first_ways_along(web.start, web.ties)[0])


def last_ways(web):
    """For each place the first text that leads from it to the end."""
    need_web(web, -1)
    return by_place(web, last_ways_along([web.end], web.ties))


def shorter_first(texts):
    """The texts by length, then ascending."""
    return tuple(sorted(sorted(texts), key=len))


def least_lot(web):
    """The lot of as few texts as can be that tells the web, each as short as in any such lot."""
    need_web(web, -1)
    return shorter_first(lot_along(web.start, web.ties, [web.end]))


def need_told_or_none(texts):
    """Told versions as a tuple of unlike texts, also none."""
    if is_sequence(texts) and len(texts) == 0:
        return ()
    return need_told(texts)


def ties_of_part(web, texts):
    """The web's ties that are those of the texts' folded web, whose unlike places are unlike ones of this web."""
    told = web_of_texts(texts)
    images = {told.start: web.start}
    # A plain web's places are numbered as they are reached: each is met here before it is left.
    for begin, letter, end in told.ties:
        image = web.ends_ahead.get((images[begin], letter))
        if image is None or images.get(end, image) != image:
            raise Refused(-1)
        images[end] = image
    if images[told.end] != web.end or len(set(list(images.values()))) < told.places:
        raise Refused(-1)
    return [(images[begin], letter, images[end]) for begin, letter, end in told.ties]


def with_ties_along(web, part, text):
    """The part's ties and those along a text that the web reads."""
    ties = {tie: True for tie in part}
    place = web.start
    for letter in text:
        end = web.step_ahead(place, letter)
        ties[(place, letter, end)] = True
        place = end
    return ties


def next_ear(web, part):
    """A text that leaves the part by one of its missing ties and comes back to it as soon as can be."""
    inner = sorted(part)
    places = {web.start: True, web.end: True}
    for begin, _, end in inner:
        places[begin] = True
        places[end] = True
    leaving = [tie for tie in web.ties if tie not in part and tie[0] in places][0]
    ways = first_ways_along(leaving[2], web.ties)[0]
    back = [place for place in ways if place in places][0]
    ahead = first_ways_along(web.start, inner)[0][leaving[0]]
    return ahead + (leaving[1],) + ways[back] + last_ways_along([web.end], inner)[back]


def ear_texts(web, texts):
    """Texts that, put to the told ones one after another, make their folded web a part with one more, to the web."""
    need_web(web, -1)
    texts = need_told_or_none(texts)
    ears = []
    if texts:
        part = {tie: True for tie in ties_of_part(web, texts)}
    else:
        ears.append(first_ways_along(web.start, web.ties)[0][web.end])
        part = with_ties_along(web, {}, ears[0])
    while len(part) < len(web.ties):
        text = next_ear(web, part)
        ears.append(text)
        part = with_ties_along(web, part, text)
    return tuple(ears)


def needless_texts(texts):
    """The told versions that can come of the others."""
    texts = need_told(texts)
    if len(texts) == 1:
        return ()
    needless = []
    for at, text in enumerate(texts):
        if is_read(web_of_texts(texts[:at] + texts[at + 1:]), text):
            needless.append(text)
    return shorter_first(needless)


def lot_paper(texts):
    """The folded web of a lot as few as can be, or two unlike rows with one word."""
    texts = need_told(texts)
    web = web_of_texts(texts)
    if count_of_web(web) == len(texts):
        return "fewest", web
    one, other = TextFolding(texts, True).points.unlike_rows
    return "twice", struck_row(one + (0,)), struck_row(other + (0,))


def is_version_row(texts, value):
    """Whether any value is a row of told versions in which none stands beside itself."""
    if not isinstance(value, tuple) or len(value) % 2 == 0:
        return False
    return all([is_number_below(number, len(texts)) for number in value]) and is_struck_row(value)


def lot_holds(texts, value):
    """Whether any value tells rightly that the lot is as few as can be, or two unlike rows with one word."""
    texts = need_told(texts)
    if is_tuple_of(value, 2) and is_word(value[0], "fewest"):
        web = web_of_texts(texts)
        return isinstance(value[1], Web) and value[1] == web and count_of_web(web) == len(texts)
    if not is_tuple_of(value, 3) or not is_word(value[0], "twice"):
        return False
    if not is_version_row(texts, value[1]) or not is_version_row(texts, value[2]) or value[1] == value[2]:
        return False
    return row_product(texts, value[1]) == row_product(texts, value[2])


def row_or_none(texts, text):
    """The row by which the text comes of a lot that has to be as few as can be, None if it cannot come."""
    folded = TextFolding(texts, True)
    points = folded.points
    if points.unlike_rows is not None:
        raise Refused(-1)
    row = ()
    here = folded.numbers[()]
    for letter in text:
        moves = points.sides[0][points.roots[here]]
        if letter not in moves:
            return None
        own, far = moves[letter]
        row = struck_row(row + points.row_between(here, own))
        here = far
    end = folded.numbers[texts[0]]
    if points.roots[here] != points.roots[end]:
        return None
    return struck_row(row + points.row_between(here, end) + (0,))


def version_row(texts, text):
    """The one row by which the text comes, None if it cannot come."""
    texts, text = need_told(texts), need_text(text, -1)
    return row_or_none(texts, text)


def stand_ins(texts, text):
    """The places of the told versions in whose place the text tells the same web."""
    texts, text = need_told(texts), need_text(text, -1)
    row = row_or_none(texts, text)
    if row is None:
        return ()
    # In the place of a version that stands twice or more, no tie of that version by itself is left.
    return tuple([at for at in range(len(texts)) if row.count(at) == 1])
