"""Logs: which told versions were needed, lots that bring a text, hidden versions, least formats."""

from itertools import combinations
from math import gcd

from cancelsback.checks import is_integer, is_number_below, is_sequence, need_text, need_told
from cancelsback.errors import InvalidLots, InvalidSize, Refused
from cancelsback.fewest import count_of_web
from cancelsback.ways import lot_along
from cancelsback.webs import Web, is_read, need_web, plain_web, web_of_texts

MOST_TEXTS = 6
MOST_MANY = 4
MOST_PLACES = 7
# So far apart from the told length each lots of up to four versions are found.
MOST_APART = 19


def comes_of(texts, came):
    """Whether the text can come of some told versions, maybe none."""
    return len(texts) > 0 and is_read(web_of_texts(texts), came)


def needed_texts(texts, came):
    """The told versions without which the text cannot come, ascending."""
    texts, came = need_told(texts), need_text(came, -1)
    if not comes_of(texts, came):
        raise Refused(-1)
    return tuple(sorted([text for at, text in enumerate(texts) if not comes_of(texts[:at] + texts[at + 1:], came)]))


def bringing_lots(texts, came):
    """The lots of places of told versions of which the text can come, and of no lesser part."""
    texts, came = need_told(texts), need_text(came, -1)
    if len(texts) > MOST_TEXTS:
        raise InvalidSize("texts")
    numbers = list(range(len(texts)))
    lots = []
    for size in range(1, len(texts) + 1):
        for lot in combinations(numbers, size):
            if not holds_a_lot(lot, lots) and comes_of(tuple([texts[at] for at in lot]), came):
                lots.append(lot)
    return tuple(sorted(lots))


def is_part(lot, other):
    """Whether all numbers of the one lot are in the other."""
    return all([number in other for number in lot])


def holds_a_lot(numbers, lots):
    """Whether one of these lots lies in the numbers."""
    return any([is_part(lot, numbers) for lot in lots])


def is_lot(value, many):
    """Whether it is a sequence of two or more unlike, ascending numbers below many."""
    if not is_sequence(value) or len(value) < 2 or not all([is_number_below(number, many) for number in value]):
        return False
    return all([number < value[at + 1] for at, number in enumerate(value[:-1])])


def need_lots(values, many):
    """The lots, none within another one, as tuples."""
    if not is_sequence(values):
        raise InvalidLots(-1)
    lots = []
    for at, value in enumerate(values):
        if not is_lot(value, many) or any([is_part(lot, value) or is_part(value, lot) for lot in lots]):
            raise InvalidLots(at)
        lots.append(tuple(value))
    return lots


def brings_zero(numbers):
    """Whether the length 0 comes of these unlike ones, counted from the told length: a rest by all differences."""
    modulus = 0
    for number in numbers:
        modulus = gcd(modulus, number - numbers[0])
    return numbers[0] == 0 if modulus == 0 else numbers[0] % modulus == 0


def fits_lots(lengths, lots):
    """Whether of the lengths, the last one among them, those bring the told one that hold one of the lots."""
    last = len(lengths) - 1
    ahead = list(range(last))
    for size in range(len(lengths)):
        for rest in combinations(ahead, size):
            places = rest + (last,)
            if brings_zero([lengths[at] for at in places]) != holds_a_lot(places, lots):
                return False
    return True


def lengths_for(many, lots, lengths):
    """These lengths, counted from the told one, and more behind them, so that just the lots bring it; or None."""
    if len(lengths) == many:
        return lengths
    for apart in range(1, MOST_APART + 1):
        for length in (apart, -apart):
            if length not in lengths and fits_lots(lengths + (length,), lots):
                found = lengths_for(many, lots, lengths + (length,))
                if found is not None:
                    return found
    return None


def lots_lengths(many, lots):
    """Lengths of texts of one letter, and a length that comes of a lot of them exactly if it holds one of these."""
    if not is_integer(many) or many < 1 or many > MOST_MANY:
        raise InvalidSize("many")
    found = lengths_for(many, need_lots(lots, many), ())
    length = max(0, -min(found))
    return tuple([apart + length for apart in found]), length


def need_few_places(web):
    """Raises where a web has more places than can be joined in all ways."""
    if web.places > MOST_PLACES:
        raise InvalidSize("places")


def joined_rows(places):
    """All ways to make places one: for each place the number of what it is in, told in the order of first places."""
    rows = [()]
    for _ in range(places):
        rows = [row + (number,) for row in rows for number in range(max((-1,) + row) + 2)]
    return rows


def joined_web(web, row):
    """The plain web with places made one, None if some letter leads from one to two then, or to one from two."""
    ties = sorted(set([(row[begin], letter, row[end]) for begin, letter, end in web.ties]))
    if len(set([(begin, letter) for begin, letter, _ in ties])) < len(ties):
        return None
    if len(set([(letter, end) for _, letter, end in ties])) < len(ties):
        return None
    return plain_web(Web(max(row) + 1, ties, row[web.start], row[web.end]))


def all_joined(web):
    """All unlike plain webs that the web becomes by making places one."""
    need_few_places(web)
    found = {}
    for row in joined_rows(web.places):
        joined = joined_web(web, row)
        if joined is not None:
            found[(joined.places, joined.ties, joined.end)] = joined
    return tuple([found[mark] for mark in sorted(found)])


def joined_webs(web):
    """All plain webs that the web becomes by making places one."""
    need_web(web, -1)
    return all_joined(web)


def fewest_hidden(texts):
    """The fewest versions of which all these texts can come, and some such."""
    webs = all_joined(web_of_texts(need_told(texts)))
    best = min(webs, key=count_of_web)
    return count_of_web(best), tuple(lot_along(best.start, best.ties, [best.end]))


def least_format(good, bad):
    """A web of fewest places that reads all good ones and no bad one, or the least place of a bad one that can come."""
    good, bad = need_told(good), need_told(bad)
    web = web_of_texts(good)
    need_few_places(web)
    for at, text in enumerate(bad):
        if is_read(web, text):
            return "comes", at
    fitting = [joined for joined in all_joined(web) if not any([is_read(joined, text) for text in bad])]
    return "web", fitting[0]
