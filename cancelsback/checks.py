"""Tells what is an integer, a letter or a text, and raises for what is none."""

from cancelsback.errors import InvalidBases, InvalidText, InvalidTexts, InvalidVersions


def is_integer(value):
    """Whether it is an integer; a bool is none."""
    return isinstance(value, int) and not isinstance(value, bool)


def is_number(value):
    """Whether it is an integer from 0 on."""
    return is_integer(value) and value >= 0


def is_number_below(value, limit):
    """Whether it is a number below the limit."""
    return is_number(value) and value < limit


def is_sequence(value):
    """Whether it is a list or a tuple."""
    return isinstance(value, (list, tuple))


def is_row_of(value, many):
    """Whether it is a sequence of so many things."""
    return is_sequence(value) and len(value) == many


def is_tuple_of(value, many):
    """Whether it is a tuple of so many things, as papers need it."""
    return isinstance(value, tuple) and len(value) == many


def is_word(value, word):
    """Whether it is this string."""
    return isinstance(value, str) and value == word


def is_letter(value):
    """Whether it is a letter."""
    return is_number_below(value, 100)


def text_or_none(value):
    """The text as a tuple, None if the value is no text."""
    if not is_sequence(value):
        return None
    for letter in value:
        if not is_letter(letter):
            return None
    return tuple(value)


def is_text_paper(value):
    """Whether it is a text that is a tuple, as papers need it."""
    return isinstance(value, tuple) and text_or_none(value) is not None


def same_paper(value, paper):
    """Whether any value is this very paper: no list for a tuple, no bool for an integer."""
    if isinstance(paper, tuple):
        if not is_tuple_of(value, len(paper)):
            return False
        for at, part in enumerate(paper):
            if not same_paper(value[at], part):
                return False
        return True
    if isinstance(paper, str):
        return is_word(value, paper)
    return is_integer(value) and value == paper


def need_text(value, at):
    """The text as a tuple."""
    text = text_or_none(value)
    if text is None:
        raise InvalidText(at)
    return text


def need_three_texts(one, other, third):
    """Three texts as tuples, their places told from 0 on."""
    return need_text(one, 0), need_text(other, 1), need_text(third, 2)


def first_wrong_text(values, alike):
    """The first place of no text, or (where alike is False) of one that was there before; None if there is none."""
    seen = set()
    for at, value in enumerate(values):
        text = text_or_none(value)
        if text is None:
            return at
        if not alike and text in seen:
            return at
        seen.add(text)
    return None


def need_told(values):
    """Told versions as a tuple of unlike texts."""
    if not is_sequence(values) or len(values) == 0:
        raise InvalidTexts(-1)
    at = first_wrong_text(values, False)
    if at is not None:
        raise InvalidTexts(at)
    return tuple([tuple(text) for text in values])


def need_bases(values):
    """Bases as a tuple of unlike texts, also none."""
    if not is_sequence(values):
        raise InvalidBases(-1)
    at = first_wrong_text(values, False)
    if at is not None:
        raise InvalidBases(at)
    return tuple([tuple(text) for text in values])


def need_any_versions(values):
    """One or more versions as a tuple of texts, alike ones let."""
    if not is_sequence(values) or len(values) == 0:
        raise InvalidVersions(-1)
    at = first_wrong_text(values, True)
    if at is not None:
        raise InvalidVersions(at)
    return tuple([tuple(text) for text in values])


def need_versions(values, least, most):
    """So many versions as a tuple of texts, alike ones let."""
    if not is_sequence(values) or len(values) < least or len(values) > most:
        raise InvalidVersions(-1)
    return need_any_versions(values)
