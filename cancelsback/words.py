"""Words: letters with signs, struck out where neighbours undo each other."""

from cancelsback.checks import is_integer, is_letter, is_row_of, is_sequence, is_tuple_of
from cancelsback.errors import InvalidWord


def is_signed_letter(value):
    """Whether it is a pair of a letter and a sign."""
    if not is_row_of(value, 2):
        return False
    return is_letter(value[0]) and is_integer(value[1]) and value[1] in (1, -1)


def need_word(value, at):
    """The word as a tuple of pairs."""
    if not is_sequence(value):
        raise InvalidWord(at)
    for pair in value:
        if not is_signed_letter(pair):
            raise InvalidWord(at)
    return tuple([(pair[0], pair[1]) for pair in value])


def undo_each_other(one, other):
    """Whether two letters with signs undo each other."""
    return one[0] == other[0] and one[1] != other[1]


def struck(word):
    """The struck word of a word that is surely one."""
    left = []
    for pair in word:
        if left and undo_each_other(left[-1], pair):
            left.pop()
        else:
            left.append(pair)
    return tuple(left)


def undone(word):
    """The word backwards with turned signs, of a word that is surely one."""
    return tuple([(letter, -sign) for letter, sign in word[::-1]])


def strike_out(word):
    """The word with neighbours struck out that undo each other, until none do."""
    return struck(need_word(word, -1))


def undo_word(word):
    """The word backwards, each sign turned."""
    return undone(need_word(word, -1))


def join_words(one, other):
    """The product of two words: the one and the other behind it, struck."""
    first = need_word(one, 0)
    return struck(first + need_word(other, 1))


def strike_pairs(word):
    """Ascending pairs of places that are struck out together."""
    word = need_word(word, -1)
    waiting = []
    pairs = []
    for at, pair in enumerate(word):
        if waiting and undo_each_other(word[waiting[-1]], pair):
            pairs.append((waiting.pop(), at))
        else:
            waiting.append(at)
    return tuple(sorted(pairs))


def partners_or_none(word, value):
    """For each place the one struck out with it, -1 for none; None if these are no ascending pairs that may be so."""
    partners = [-1] * len(word)
    before = (-1, -1)
    for pair in value:
        if not is_tuple_of(pair, 2) or not is_integer(pair[0]) or not is_integer(pair[1]):
            return None
        begin, end = pair
        if begin < 0 or begin >= end or end >= len(word) or pair <= before:
            return None
        if partners[begin] != -1 or partners[end] != -1 or not undo_each_other(word[begin], word[end]):
            return None
        partners[begin] = end
        partners[end] = begin
        before = pair
    return partners


def strikes_hold(word, value):
    """Whether any value tells pairs of places that are struck out so, to the end."""
    word = need_word(word, -1)
    if not isinstance(value, tuple):
        return False
    partners = partners_or_none(word, value)
    if partners is None:
        return False
    for begin, end in value:
        for between in range(begin + 1, end):
            if partners[between] <= begin or partners[between] >= end:
                return False
    left = tuple([pair for at, pair in enumerate(word) if partners[at] == -1])
    return struck(left) == left
