"""Merges of three texts, their other corners, picks, pairs and histories."""

from cancelsback.checks import is_number_below, is_row_of, is_sequence, is_word
from cancelsback.checks import need_text, need_three_texts, text_or_none
from cancelsback.errors import InvalidChanges, InvalidDeeds, InvalidHistory, InvalidIndex, Refused
from cancelsback.texts import product_by_turns


def front_length(one, other):
    """The length of the longest common beginning."""
    most = min(len(one), len(other))
    for at in range(most):
        if one[at] != other[at]:
            return at
    return most


def end_length(one, other):
    """The length of the longest common end."""
    return front_length(one[::-1], other[::-1])


def cut_bounds(base, mine, yours):
    """The least and the greatest cut; the merge clashes if they stand the other way round."""
    return len(base) - end_length(base, mine), front_length(base, yours)


def merged(base, mine, yours):
    """What comes of three tuples that are surely texts, or None."""
    least, greatest = cut_bounds(base, mine, yours)
    if least > greatest:
        return None
    return mine[:len(mine) - len(base) + least] + yours[least:]


def merge_texts(base, mine, yours):
    """What comes of the merge, None if it clashes."""
    base, mine, yours = need_three_texts(base, mine, yours)
    return merged(base, mine, yours)


def merge_cuts(base, mine, yours):
    """All lengths at which the base can be cut."""
    base, mine, yours = need_three_texts(base, mine, yours)
    least, greatest = cut_bounds(base, mine, yours)
    return tuple(range(least, greatest + 1))


def clash_lines(base, mine, yours):
    """The first line that both claim and the one behind the last, or None."""
    base, mine, yours = need_three_texts(base, mine, yours)
    least, greatest = cut_bounds(base, mine, yours)
    if least <= greatest:
        return None
    return greatest, least


def merge_word(base, mine, yours):
    """Mine, the base undone and yours as one struck word."""
    base, mine, yours = need_three_texts(base, mine, yours)
    return product_by_turns([mine, base, yours])


def missing_base(mine, yours, came):
    """The base over which these come to it, or None."""
    mine, yours, came = need_three_texts(mine, yours, came)
    return merged(came, yours, mine)


def missing_mine(base, yours, came):
    """The mine with which it comes, or None."""
    base, yours, came = need_three_texts(base, yours, came)
    return merged(yours, came, base)


def missing_yours(base, mine, came):
    """The yours with which it comes, or None."""
    base, mine, came = need_three_texts(base, mine, came)
    return merged(mine, base, came)


def front_pick(text, old, new):
    """The text with the change put in front, or None."""
    text, old, new = need_three_texts(text, old, new)
    return merged(old, new, text)


def back_pick(text, old, new):
    """The text with the change put behind, or None."""
    text, old, new = need_three_texts(text, old, new)
    return merged(old, text, new)


def deed_or_none(value):
    """The deed as a tuple, None if it is none."""
    if not is_row_of(value, 3) or not (is_word(value[0], "front") or is_word(value[0], "back")):
        return None
    old, new = text_or_none(value[1]), text_or_none(value[2])
    if old is None or new is None:
        return None
    return value[0], old, new


def need_deeds(values):
    """The deeds as tuples."""
    if not is_sequence(values):
        raise InvalidDeeds(-1)
    deeds = []
    for at, value in enumerate(values):
        deed = deed_or_none(value)
        if deed is None:
            raise InvalidDeeds(at)
        deeds.append(deed)
    return deeds


def pick_row(text, deeds):
    """What the text comes to by all picks in turn, or the first that clashes."""
    text = need_text(text, -1)
    for at, deed in enumerate(need_deeds(deeds)):
        side, old, new = deed
        came = merged(old, new, text) if side == "front" else merged(old, text, new)
        if came is None:
            return "stuck", at
        text = came
    return "comes", text


def need_changes(values):
    """The changes as pairs of tuples."""
    if not is_sequence(values):
        raise InvalidChanges(-1)
    changes = []
    for at, value in enumerate(values):
        if not is_row_of(value, 2):
            raise InvalidChanges(at)
        old, new = text_or_none(value[0]), text_or_none(value[1])
        if old is None or new is None:
            raise InvalidChanges(at)
        changes.append((old, new))
    return changes


def row_change(changes):
    """The one change that all of them in a row are, or the first that nothing lets by."""
    least = ()
    came = ()
    for at, change in enumerate(need_changes(changes)):
        old, new = change
        kept = end_length(old, new)
        old, new = old[:len(old) - kept], new[:len(new) - kept]
        shared = front_length(came, old)
        if shared < len(came) and shared < len(old):
            return "never", at
        # What the change asks for behind all that came so far must stand in the text from the start.
        least = least + old[shared:]
        came = new + came[shared:]
    return "change", least, came


def all_pairs(base, came):
    """All pairs (mine, yours) that come to it over the base, ascending."""
    pairs = set()
    for cut in range(len(base) + 1):
        for at in range(len(came) + 1):
            pairs.add((came[:at] + base[cut:], base[:cut] + came[at:]))
    return sorted(pairs)


def pair_count(base, came):
    """How many pairs (mine, yours) come to it over the base."""
    base, came = need_text(base, 0), need_text(came, 1)
    alike = sum([1 for letter in base for other in came if letter == other])
    return (len(base) + 1) * (len(came) + 1) - alike


def nth_pair(base, came, number):
    """The pair (mine, yours) with this number."""
    base, came = need_text(base, 0), need_text(came, 1)
    pairs = all_pairs(base, came)
    if not is_number_below(number, len(pairs)):
        raise InvalidIndex(-1)
    return pairs[number]


def pair_place(base, came, mine, yours):
    """The number of the pair."""
    base, came = need_text(base, 0), need_text(came, 1)
    mine, yours = need_text(mine, 2), need_text(yours, 3)
    if merged(base, mine, yours) != came:
        raise Refused("pair")
    return all_pairs(base, came).index((mine, yours))


def merge_numbers(value, below):
    """The three numbers of a step that merges earlier ones, or None."""
    if not is_row_of(value, 4) or not is_word(value[0], "merge"):
        return None
    numbers = tuple(value[1:])
    if not all([is_number_below(number, below) for number in numbers]):
        return None
    return numbers


def history_step(value, at):
    """The step as a tuple, None if it is none."""
    if is_row_of(value, 2) and is_word(value[0], "told"):
        text = text_or_none(value[1])
        return None if text is None else ("told", text)
    numbers = merge_numbers(value, at)
    return None if numbers is None else ("merge",) + numbers


def need_history(values):
    """The history as tuples."""
    if not is_sequence(values) or len(values) == 0:
        raise InvalidHistory(-1)
    steps = []
    for at, value in enumerate(values):
        step = history_step(value, at)
        if step is None:
            raise InvalidHistory(at)
        steps.append(step)
    return steps


def texts_of_steps(steps, kept):
    """The texts of steps that are surely ones; a step that merges none is told by its text in `kept`."""
    texts = []
    for at, step in enumerate(steps):
        if step[0] == "merge":
            text = merged(texts[step[1]], texts[step[2]], texts[step[3]])
            if text is None:
                raise Refused(at)
        else:
            text = kept[at]
        texts.append(text)
    return tuple(texts)


def history_texts(history):
    """The texts of all steps."""
    steps = need_history(history)
    return texts_of_steps(steps, [step[1] for step in steps])
