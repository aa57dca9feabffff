"""What comes of versions where only released texts may be bases."""

from cancelsback.checks import is_integer, is_number, is_text_paper, is_tuple_of, is_word
from cancelsback.checks import need_bases, need_text, need_told
from cancelsback.errors import Refused
from cancelsback.fronts import FrontNet, fair_ties, least_ties, wanted_ties, weighted_ties
from cancelsback.subsets import comes_always, first_unlike, web_of_states
from cancelsback.texts import product_by_turns, word_of


class TieRows:
    """Tells for ties of least weights the rows of versions and undone bases that they stand for."""

    def __init__(self, net, bases):
        self.net = net
        self.wanted = wanted_ties(net, bases)
        self.known = {}

    def row_of_tie(self, begin, end):
        """Versions and undone bases by turns: as many bases as the tie weighs."""
        if (begin, end) not in self.known:
            self.known[(begin, end)] = self.find_row(begin, end)
        return self.known[(begin, end)]

    def find_row(self, begin, end):
        """The row by a base that asks for this tie with its weight: of least weights each tie has such a base."""
        weight = self.net.tied(begin, end)
        for base, cut, ahead, behind in self.wanted:
            if begin in behind and end in ahead and 1 + behind[begin] + ahead[end] == weight:
                version = self.net.least_end(self.net.layers(begin, base[cut:])[-1])
                row = self.row_of_run(begin, base[cut:], version)
                return row + (self.net.fronts[version], base) + self.row_of_run(0, base[:cut], end)
        return ()

    def row_of_run(self, place, word, end):
        """The rows of all ties of a lightest run, one behind another."""
        row = ()
        for begin, to in self.net.ties_of_run(place, word, end):
            row = row + self.row_of_tie(begin, to)
        return row


def shortest_row(net, bases, text):
    """A row of the fewest texts whose product is the text, which surely comes."""
    version = net.least_end(net.layers(0, text)[-1])
    return TieRows(net, bases).row_of_run(0, text, version) + (net.fronts[version],)


def over_paper(versions, bases, text):
    """Some row whose product is the text, or ties that bar it."""
    versions, bases, text = need_told(versions), need_bases(bases), need_text(text, -1)
    net = least_ties(versions, bases)
    if net.leads(text) is not None:
        return "row", shortest_row(net, bases, text)
    return "bars", tuple([(begin, end) for begin, end, _ in weighted_ties(net)])


def is_row_paper(versions, bases, text, row):
    """Whether any value is a row of versions and bases whose product is the text."""
    if not isinstance(row, tuple) or len(row) % 2 == 0:
        return False
    for at, part in enumerate(row):
        if not is_text_paper(part) or part not in (bases if at % 2 else versions):
            return False
    return product_by_turns(row) == word_of(text)


def ties_or_none(net, values, weighted):
    """Unlike ties as {(front, front): weight}; weight 0 where none are told; None if the value is no such tuple."""
    if not isinstance(values, tuple):
        return None
    ties = {}
    for value in values:
        if not is_tuple_of(value, 3 if weighted else 2):
            return None
        if not all([is_text_paper(front) and front in net.numbers for front in value[:2]]) or value[0] == value[1]:
            return None
        pair = (net.numbers[value[0]], net.numbers[value[1]])
        if pair in ties or (weighted and not is_number(value[2])):
            return None
        ties[pair] = value[2] if weighted else 0
    return ties


def net_of_ties(versions, bases, values, weighted):
    """The net with any value's ties; None if they are none, are not closed or have no fair weights."""
    net = FrontNet(versions)
    ties = ties_or_none(net, values, weighted)
    if ties is None:
        return None
    net.tie_up(ties)
    return net if fair_ties(net, bases) else None


def over_holds(versions, bases, text, value):
    """Whether any value is a row whose product is the text, or ties that bar it."""
    versions, bases, text = need_told(versions), need_bases(bases), need_text(text, -1)
    if not is_tuple_of(value, 2):
        return False
    if is_word(value[0], "row"):
        return is_row_paper(versions, bases, text, value[1])
    if not is_word(value[0], "bars"):
        return False
    net = net_of_ties(versions, bases, value[1], False)
    return net is not None and net.leads(text) is None


def fewest_paper(versions, bases, text):
    """A row of the fewest texts for the text, and fair weights that tell why no fewer."""
    versions, bases, text = need_told(versions), need_bases(bases), need_text(text, -1)
    net = least_ties(versions, bases)
    if net.leads(text) is None:
        raise Refused(-1)
    return shortest_row(net, bases, text), weighted_ties(net)


def fewest_holds(versions, bases, text, value):
    """Whether any value is a row for the text and fair weights that tell why no fewer."""
    versions, bases, text = need_told(versions), need_bases(bases), need_text(text, -1)
    if least_ties(versions, bases).leads(text) is None:
        raise Refused(-1)
    if not is_tuple_of(value, 2) or not is_row_paper(versions, bases, text, value[0]):
        return False
    net = net_of_ties(versions, bases, value[1], True)
    return net is not None and net.leads(text) == len(value[0]) // 2


def ring_paper(versions, bases):
    """How many texts come, or a ring by which endlessly many do."""
    net = least_ties(need_told(versions), need_bases(bases))
    web = web_of_states(net)
    ring = web.ring_or_none()
    if ring is None:
        return "finite", web.text_count()
    return ("endless",) + ring


def ring_holds(versions, bases, value):
    """Whether any value tells how many texts come, or a ring by which endlessly many do."""
    net = least_ties(need_told(versions), need_bases(bases))
    if is_tuple_of(value, 2) and is_word(value[0], "finite") and is_integer(value[1]):
        web = web_of_states(net)
        return web.ring_or_none() is None and web.text_count() == value[1]
    if not is_tuple_of(value, 4) or not is_word(value[0], "endless"):
        return False
    if not all([is_text_paper(text) for text in value[1:]]) or value[2] == ():
        return False
    return comes_always(net, value[1], value[2], value[3])


def lost_text(versions, bases, fewer):
    """The first text that comes over the bases and not over the fewer ones, None if there is none."""
    versions, bases, fewer = need_told(versions), need_bases(bases), need_bases(fewer)
    return first_unlike(least_ties(versions, bases), least_ties(versions, fewer))
