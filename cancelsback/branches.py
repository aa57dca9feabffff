"""Branches: a told version into which told changes are merged, in front or behind, by fewest steps."""

from cancelsback.checks import is_letter, is_number, is_number_below, is_row_of, is_sequence, is_tuple_of, is_word
from cancelsback.checks import need_text, need_told
from cancelsback.errors import InvalidDeeds, InvalidIndex, Refused
from cancelsback.merges import merged
from cancelsback.weighed import BranchWeb, WeighedWeb, keeps_changes


def need_start(start, texts):
    """Raises where no told version has this place."""
    if not is_number_below(start, len(texts)):
        raise InvalidIndex(-1)


def is_step(value, many):
    """Whether it is a step with places of so many told versions."""
    if not is_row_of(value, 3) or not (is_word(value[0], "front") or is_word(value[0], "back")):
        return False
    return is_number_below(value[1], many) and is_number_below(value[2], many)


def need_steps(values, many):
    """The steps as tuples."""
    if not is_sequence(values):
        raise InvalidDeeds(-1)
    for at, value in enumerate(values):
        if not is_step(value, many):
            raise InvalidDeeds(at)
    return tuple([tuple(value) for value in values])


def behind_step(texts, step, branch):
    """The branch behind a step, or None."""
    side, base, other = step
    if side == "front":
        return merged(texts[base], texts[other], branch)
    return merged(texts[base], branch, texts[other])


def branch_text(texts, start, steps):
    """The text of the branch behind all steps."""
    texts = need_told(texts)
    need_start(start, texts)
    branch = texts[start]
    for at, step in enumerate(need_steps(steps, len(texts))):
        branch = behind_step(texts, step, branch)
        if branch is None:
            raise Refused(at)
    return branch


def step_before(texts, web, text, weight):
    """A step that leads from the text to one of this weight, and that one, where the text weighs one more."""
    for step in all_steps(len(texts)):
        before = behind_step(texts, step, text)
        if before is not None and web.weight_of(before) == weight:
            return step, before
    return None


def steps_back(texts, web, text):
    """The version from which fewest steps lead to the text, and these; the text surely has a weight by the web."""
    steps = []
    for weight in range(web.weight_of(text) - 1, -1, -1):
        (side, base, other), text = step_before(texts, web, text, weight)
        # What a step brings is taken back by the one with base and other exchanged.
        steps.append((side, other, base))
    return text, tuple(steps[::-1])


def all_steps(many):
    """All steps with unlike places of so many told versions."""
    numbers = list(range(many))
    return [(side, base, other) for side in ("front", "back") for base in numbers for other in numbers if base != other]


def shortest_branch(texts, text):
    """Some start and fewest steps that lead to the text, None if no steps do."""
    texts, text = need_told(texts), need_text(text, -1)
    web = BranchWeb(texts, texts).web
    if web.weight_of(text) is None:
        return None
    version, steps = steps_back(texts, web, text)
    return texts.index(version), steps


def branch_paper(texts, start, text):
    """Fewest steps from one told version to the text, None if there are none, and a weighed web that tells why."""
    texts = need_told(texts)
    need_start(start, texts)
    text = need_text(text, -1)
    web = BranchWeb(texts, [texts[start]]).web
    steps = None if web.weight_of(text) is None else steps_back(texts, web, text)[1]
    return steps, web.triple()


def are_weights(value):
    """Whether any value is an ascending tuple of pairs (place, weight), no place twice."""
    if not isinstance(value, tuple):
        return False
    for at, pair in enumerate(value):
        if not is_tuple_of(pair, 2) or not is_number(pair[0]) or not is_number(pair[1]):
            return False
        if at > 0 and pair[0] <= value[at - 1][0]:
            return False
    return True


def are_weighed_ties(value):
    """Whether any value is an ascending tuple of (place, letter, place, weight), no first three twice."""
    if not isinstance(value, tuple):
        return False
    for at, tie in enumerate(value):
        if not is_tuple_of(tie, 4) or not all([is_number(part) for part in tie]) or not is_letter(tie[1]):
            return False
        if at > 0 and tie[:3] <= value[at - 1][:3]:
            return False
    return True


def web_of_triple(value):
    """The weighed web that any value is, or None."""
    if not is_tuple_of(value, 3) or not are_weights(value[0]) or not are_weights(value[1]):
        return None
    if not are_weighed_ties(value[2]):
        return None
    web = WeighedWeb()
    web.start_weights.update({place: weight for place, weight in value[0]})
    web.end_weights.update({place: weight for place, weight in value[1]})
    for begin, letter, end, weight in value[2]:
        web.lower_tie(begin, letter, end, weight)
    return web


def text_of_steps(texts, start, value):
    """The text behind any value's steps; None if these are no tuple of steps that go."""
    if not isinstance(value, tuple):
        return None
    branch = texts[start]
    for step in value:
        if not isinstance(step, tuple) or not is_step(step, len(texts)):
            return None
        branch = behind_step(texts, step, branch)
        if branch is None:
            return None
    return branch


def branch_holds(texts, start, text, value):
    """Whether any value is such a pair of steps and weighed web."""
    texts = need_told(texts)
    need_start(start, texts)
    text = need_text(text, -1)
    if not is_tuple_of(value, 2):
        return False
    web = web_of_triple(value[1])
    if web is None or web.weight_of(texts[start]) != 0 or not keeps_changes(web, texts):
        return False
    if value[0] is None:
        return web.weight_of(text) is None
    return text_of_steps(texts, start, value[0]) == text and web.weight_of(text) == len(value[0])
