"""What can come of told versions by any merges, with papers, rows, counts, and lots for wished numbers."""

from cancelsback.checks import is_integer, is_number, is_text_paper, is_tuple_of, is_word
from cancelsback.checks import need_text, need_told
from cancelsback.errors import InvalidIndex, InvalidSize, Refused
from cancelsback.foldings import TextFolding
from cancelsback.histories import need_row, row_product
from cancelsback.merges import merge_numbers, merged
from cancelsback.rings import MoveWeb
from cancelsback.tellings import RestTelling
from cancelsback.texts import text_of
from cancelsback.ways import lot_along
from cancelsback.webs import Web, is_read, unlike_text, web_of_texts

MOST_WISHED = 40


def can_come(texts, text):
    """Whether the text can come of the told versions."""
    texts, text = need_told(texts), need_text(text, -1)
    return is_read(web_of_texts(texts), text)


def coming_paper(texts, text):
    """A history that ends with the text, or a web that reads all told versions and not the text."""
    texts, text = need_told(texts), need_text(text, -1)
    web = web_of_texts(texts)
    if is_read(web, text):
        return "comes", RestTelling(texts, TextFolding(texts, False).joined_fronts()).come_to(text)
    return "never", web


def texts_of_paper(texts, value):
    """The texts of any value's steps; None if it is no history that tells just told versions and never clashes."""
    if not isinstance(value, tuple):
        return None
    came = []
    for at, step in enumerate(value):
        if is_tuple_of(step, 2) and is_word(step[0], "told") and is_text_paper(step[1]) and step[1] in texts:
            text = step[1]
        elif isinstance(step, tuple) and merge_numbers(step, at) is not None:
            text = merged(came[step[1]], came[step[2]], came[step[3]])
        else:
            return None
        if text is None:
            return None
        came.append(text)
    return came


def coming_holds(texts, text, value):
    """Whether any value is a history that ends with the text, or a web that bars it."""
    texts, text = need_told(texts), need_text(text, -1)
    if not is_tuple_of(value, 2):
        return False
    if is_word(value[0], "comes"):
        came = texts_of_paper(texts, value[1])
        return bool(came) and came[-1] == text
    if not is_word(value[0], "never") or not isinstance(value[1], Web):
        return False
    return all([is_read(value[1], told) for told in texts]) and not is_read(value[1], text)


def row_text(texts, row):
    """The text that a row of told versions makes, or None."""
    texts = need_told(texts)
    return text_of(row_product(texts, need_row(row, len(texts))))


def more_paper(one, other):
    """The least place of a text of the one lot that cannot come of the other, or None."""
    one, other = need_told(one), need_told(other)
    web = web_of_texts(other)
    for at, text in enumerate(one):
        if not is_read(web, text):
            return at
    return None


def least_apart(one, other):
    """The first text that can come of just one of both lots, or None."""
    one, other = need_told(one), need_told(other)
    return unlike_text(web_of_texts(one), web_of_texts(other))


def closed_paper(texts):
    """The least places of base, mine and yours that bring an untold text, or that there are none."""
    texts = need_told(texts)
    web = moves_of_web(web_of_texts(texts))
    if web.ring_or_none() is None and web.text_count() == len(texts):
        return ("closed",)
    told = {text: True for text in texts}
    for base, base_text in enumerate(texts):
        for mine, mine_text in enumerate(texts):
            for yours, yours_text in enumerate(texts):
                came = merged(base_text, mine_text, yours_text)
                if came is not None and came not in told:
                    return "adds", (base, mine, yours)
    return ("closed",)


def moves_of_web(web):
    """The plain web as moves from place 0."""
    moves = [{} for _ in range(web.places)]
    for begin, letter, end in web.ties:
        moves[begin][letter] = end
    return MoveWeb(moves, [place == web.end for place in range(web.places)])


def need_length(length):
    """Raises where this is no number."""
    if not is_number(length):
        raise InvalidSize("length")


def longer_counts(web, counts):
    """For each place how many texts of one letter more lead to the end."""
    more = [0] * web.places
    for begin, _, end in web.ties:
        more[begin] += counts[end]
    return more


def no_letter_counts(web):
    """For each place how many texts of no letters lead to the end."""
    return [1 if place == web.end else 0 for place in range(web.places)]


def coming_count(texts, length):
    """How many texts of this length can come."""
    web = web_of_texts(need_told(texts))
    need_length(length)
    counts = no_letter_counts(web)
    for _ in range(length):
        counts = longer_counts(web, counts)
    return counts[web.start]


def times_column(rows, column, modulus):
    """The rests of the rows' products with a column."""
    return [sum([number * other for number, other in zip(row, column)]) % modulus for row in rows]


def squared(rows, modulus):
    """The square table's rests when it is put behind itself."""
    columns = list(zip(*rows))
    return [[sum([number * other for number, other in zip(row, column)]) % modulus for column in columns]
            for row in rows]


def coming_rest(texts, length, modulus):
    """The rest of how many texts of this length can come."""
    web = web_of_texts(need_told(texts))
    need_length(length)
    if not is_integer(modulus) or modulus < 1:
        raise InvalidSize("modulus")
    rows = [[0] * web.places for _ in range(web.places)]
    for begin, _, end in web.ties:
        rows[begin][end] += 1
    counts = [count % modulus for count in no_letter_counts(web)]
    while length > 0:
        if length % 2 == 1:
            counts = times_column(rows, counts, modulus)
        length = length // 2
        if length > 0:
            rows = squared(rows, modulus)
    return counts[web.start]


def text_with_number(web, rows, number):
    """The text of as many letters as there are rows less one, with so many such texts ahead of it."""
    text = ()
    place = web.start
    for counts in rows[-2::-1]:
        for begin, letter, end in web.ties:
            if begin == place:
                if number < counts[end]:
                    text = text + (letter,)
                    place = end
                    break
                number -= counts[end]
    return text


def nth_coming(texts, number):
    """The text with this number among all that can come, shorter ones first."""
    web = web_of_texts(need_told(texts))
    moves = moves_of_web(web)
    if not is_number(number):
        raise InvalidIndex(-1)
    if moves.ring_or_none() is None and number >= moves.text_count():
        raise InvalidIndex(-1)
    rows = [no_letter_counts(web)]
    while number >= rows[-1][web.start]:
        number -= rows[-1][web.start]
        rows.append(longer_counts(web, rows[-1]))
    return text_with_number(web, rows, number)


def coming_place(texts, text):
    """The number of the text among all that can come."""
    texts, text = need_told(texts), need_text(text, -1)
    web = web_of_texts(texts)
    if not is_read(web, text):
        raise Refused(-1)
    rows = [no_letter_counts(web)]
    number = 0
    for _ in text:
        number += rows[-1][web.start]
        rows.append(longer_counts(web, rows[-1]))
    place = web.start
    for at, letter in enumerate(text):
        left = rows[len(text) - at - 1]
        number += sum([left[end] for begin, other, end in web.ties if begin == place and other < letter])
        place = web.step_ahead(place, letter)
    return number


def endless_paper(texts):
    """How many texts can come, or head, ring and tail by which endlessly many can."""
    moves = moves_of_web(web_of_texts(need_told(texts)))
    ring = moves.ring_or_none()
    if ring is None:
        return "finite", moves.text_count()
    return ("endless",) + ring


def endless_holds(texts, value):
    """Whether any value tells how many texts can come, or a ring by which endlessly many can."""
    web = web_of_texts(need_told(texts))
    moves = moves_of_web(web)
    if is_tuple_of(value, 2) and is_word(value[0], "finite") and is_integer(value[1]):
        return moves.ring_or_none() is None and moves.text_count() == value[1]
    if not is_tuple_of(value, 4) or not is_word(value[0], "endless"):
        return False
    if not all([is_text_paper(text) for text in value[1:]]) or value[2] == ():
        return False
    head, ring, tail = value[1:]
    return is_read(web, head + tail) and is_read(web, head + ring + tail)


def sums_to(number, row, most):
    """The row with numbers behind it to this one, each a sum of two earlier ones or of one twice; None beyond most."""
    if row[-1] == number:
        return row
    # What is left to be put behind can double the last number each time, no more.
    reach = row[-1]
    for _ in range(most - len(row)):
        reach = 2 * reach
    if reach < number:
        return None
    sums = sorted({one + other for one in row for other in row if row[-1] < one + other <= number})
    for total in sums[::-1]:
        found = sums_to(number, row + (total,), most)
        if found is not None:
            return found
    return None


def shortest_sums(number):
    """A shortest row of numbers from 1 to this one, each a sum of two earlier ones or of one twice."""
    if not is_integer(number) or number < 1 or number > MOST_WISHED:
        raise InvalidSize("number")
    most = 1
    found = None
    while found is None:
        found = sums_to(number, (1,), most)
        most += 1
    return found


def least_told(number):
    """The fewest told versions of which just so many texts can come."""
    return len(shortest_sums(number))


def versions_bringing(number):
    """Some lot of as few versions as can be of which just so many texts can come."""
    row = shortest_sums(number)
    ties = []
    for at in range(1, len(row)):
        one, other = [(first, second) for first in range(at) for second in range(at)
                      if row[first] + row[second] == row[at]][0]
        # As many texts lead to a place as its number tells: those to both places of which it is the sum.
        ties.extend([(one, len(ties), at), (other, len(ties) + 1, at)])
    return tuple(lot_along(0, sorted(ties), [len(row) - 1]))
