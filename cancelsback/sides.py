"""Both sides: mine ahead and yours ahead, when they bring one text, and all orders of several hands."""

from cancelsback.checks import is_integer, is_number, is_number_below, is_sequence, is_text_paper, is_tuple_of, is_word
from cancelsback.checks import need_any_versions, need_text, need_three_texts, same_paper
from cancelsback.errors import InvalidIndex, InvalidOrder, InvalidSize, Refused
from cancelsback.histories import versions_form
from cancelsback.merges import end_length, front_length, merged

MOST_LETTERS = 100


def outcomes(base, mine, yours):
    """What mine ahead and what yours ahead brings."""
    return merged(base, mine, yours), merged(base, yours, mine)


def both_sides(base, mine, yours):
    """What mine ahead and what yours ahead brings, None where it clashes."""
    base, mine, yours = need_three_texts(base, mine, yours)
    return outcomes(base, mine, yours)


def form_of(one, other):
    """The block form of two texts that are surely ones, or None."""
    if len(one) == len(other):
        return None
    shorter, longer = min(one, other, key=len), max(one, other, key=len)
    if front_length(shorter, longer) + end_length(shorter, longer) < len(shorter):
        return None
    _, front, block, back, times = versions_form((one, other))
    return (front, block, back) + times


def block_form(one, other):
    """Front, block, back and both numbers of blocks of two unlike texts that differ by blocks alone, or None."""
    one = need_text(one, 0)
    return form_of(one, need_text(other, 1))


def is_laid_so(text, front, block, back, times):
    """Whether the text is the front, the block so many times and the back."""
    # Lengths go first: a number of times may be too great for any text.
    if len(text) != len(front) + len(block) * times + len(back):
        return False
    return text == front + block * times + back


def paper_of_sides(base, mine, yours):
    """Why both sides bring one text, or why not."""
    came, other = outcomes(base, mine, yours)
    if came is None or other is None:
        return "clash", 0 if came is None else 1
    if base in (mine, yours):
        return "base", 1 if mine == base else 2
    if came != other:
        return "apart", front_length(came, other)
    front, block, back, times, others = form_of(base, mine)
    more = (len(yours) - len(front) - len(back)) // len(block)
    return "block", front, block, back, (times, others, more)


def alike_paper(base, mine, yours):
    """Why both sides bring one text, or why not."""
    base, mine, yours = need_three_texts(base, mine, yours)
    return paper_of_sides(base, mine, yours)


def is_block_paper(texts, value):
    """Whether any value tells texts, the block not empty, and numbers that make up these texts."""
    if not is_tuple_of(value, 5) or not is_word(value[0], "block") or not is_tuple_of(value[4], len(texts)):
        return False
    if not all([is_text_paper(part) for part in value[1:4]]) or value[2] == ():
        return False
    if not all([is_number(times) for times in value[4]]):
        return False
    return all([is_laid_so(text, value[1], value[2], value[3], times) for text, times in zip(texts, value[4])])


def alike_holds(base, mine, yours, value):
    """Whether any value tells rightly why both sides bring one text, or why not."""
    base, mine, yours = need_three_texts(base, mine, yours)
    came = outcomes(base, mine, yours)
    if is_tuple_of(value, 2) and is_word(value[0], "clash"):
        return is_number_below(value[1], 2) and came[value[1]] is None
    if None in came:
        return False
    if is_tuple_of(value, 2) and is_word(value[0], "base"):
        return is_integer(value[1]) and value[1] in (1, 2) and base == (mine, yours)[value[1] - 1]
    if is_tuple_of(value, 2) and is_word(value[0], "apart"):
        return is_number_below(value[1], len(came[0])) and came[0][value[1]] != came[1][value[1]]
    return is_block_paper((base, mine, yours), value)


def inner_partings(one, other):
    """All pairs of lengths of a first and a second part, by which two texts of one length are parted to their ends."""
    many = len(one)
    firsts = [length for length in range(many + 1) if one[:length] == other[many - length:]]
    seconds = [length for length in range(many + 1) if other[:length] == one[many - length:]]
    return [(first, second) for first in firsts for second in seconds
            if first + second <= many and one[first:many - second] == other[second:many - first]]


def partings_with(one, other, front, back):
    """All partings of two texts of one length with so many letters in front and back, as (weight, lengths of parts)."""
    many = len(one) - front - back
    pairs = inner_partings(one[front:front + many], other[front:front + many])
    return [(front + back + min(first, second), front, first, many - first - second, second, back)
            for first, second in pairs]


def least_parting(one, other):
    """The parting of the least weight as a tuple of five texts, None if there is none."""
    if len(one) != len(other):
        return None
    fronts, backs = front_length(one, other), end_length(one, other)
    best = None
    for outer in range(len(one) + 1):
        # Front and back alone weigh more than the best parting from here on.
        if best is not None and outer > best[0]:
            break
        for front in range(max(0, outer - backs), min(fronts, outer) + 1):
            found = partings_with(one, other, front, outer - front)
            if found and (best is None or min(found) < best):
                best = min(found)
    return None if best is None else parts_of(one, best[1:])


def parts_of(text, lengths):
    """The parts of a text that have these lengths."""
    parts = []
    at = 0
    for length in lengths:
        parts.append(text[at:at + length])
        at += length
    return tuple(parts)


def exchanged_parts(one, other):
    """Front, first, middle, second and back of the least weight, None if the texts have no parting."""
    one = need_text(one, 0)
    return least_parting(one, need_text(other, 1))


def sides_paper(one, other):
    """A merge with a shortest base whose sides bring these texts, or that there is none."""
    one = need_text(one, 0)
    parts = least_parting(one, need_text(other, 1))
    if parts is None:
        return ("none",)
    front, first, middle, second, back = parts
    # The shorter one of both exchanged parts stands in the base; the other hand has the longer one in its place.
    if len(first) <= len(second):
        return "merge", front + first + back, front + first + middle + first + back, front + second + back
    return "merge", front + second + back, front + first + back, front + second + middle + second + back


def sides_holds(one, other, value):
    """Whether any value is a merge whose sides bring these texts, or tells rightly that there is none."""
    one = need_text(one, 0)
    other = need_text(other, 1)
    if is_tuple_of(value, 1) and is_word(value[0], "none"):
        return least_parting(one, other) is None
    if not is_tuple_of(value, 4) or not is_word(value[0], "merge"):
        return False
    if not all([is_text_paper(text) for text in value[1:]]):
        return False
    return outcomes(value[1], value[2], value[3]) == (one, other)


def need_order(values, many):
    """The order of unlike places below many as a tuple."""
    if not is_sequence(values):
        raise InvalidOrder(-1)
    seen = set()
    for at, value in enumerate(values):
        if not is_number_below(value, many) or value in seen:
            raise InvalidOrder(at)
        seen.add(value)
    return tuple(values)


def end_of_hands(base, versions, order):
    """What comes of all hands in this order, or None."""
    came = base
    for place in order:
        came = merged(base, versions[place], came)
        if came is None:
            return None
    return came


def hands_end(base, versions, order):
    """What comes of the base by the versions in this order, None if one clashes."""
    base = need_text(base, -1)
    versions = need_any_versions(versions)
    return end_of_hands(base, versions, need_order(order, len(versions)))


def block_paper(base, versions):
    """The one block form of several versions with the base that takes out no more than there is, None if none."""
    forms = [form_of(base, version) for version in versions if version != base]
    if None in forms or any([form[:4] != forms[0][:4] for form in forms]):
        return None
    front, block, back, times = forms[0][:4]
    if sum([max(times - form[4], 0) for form in forms]) > times:
        return None
    row = [times if version == base else form_of(base, version)[4] for version in versions]
    return "block", front, block, back, times, tuple(row)


def unlike_orders(base, versions, places):
    """An order of these places that clashes at its last, or two that end unlike; not all orders end alike."""
    for one in places:
        for other in places:
            if one != other and end_of_hands(base, versions, (one, other)) is None:
                return "clash", (one, other)
    for one in places:
        for other in places:
            if end_of_hands(base, versions, (one, other)) != end_of_hands(base, versions, (other, one)):
                return "apart", (one, other), (other, one)
    # Each two are blocks of one form: those that are shorter than the base take out more than there is.
    order = ()
    for place in places:
        if len(versions[place]) < len(base) and end_of_hands(base, versions, order) is not None:
            order = order + (place,)
    return "clash", order


def paper_of_orders(base, versions):
    """Why all orders of all versions end with one text, or why not."""
    places = [at for at, version in enumerate(versions) if version != base]
    if len(places) < 2:
        return "one", places[0] if places else -1
    paper = block_paper(base, versions)
    return unlike_orders(base, versions, places) if paper is None else paper


def orders_paper(base, versions):
    """Why all orders of all versions end with one text, or why not."""
    base = need_text(base, -1)
    return paper_of_orders(base, need_any_versions(versions))


def is_order_paper(value, many):
    """Whether any value is a tuple of unlike places below many."""
    if not isinstance(value, tuple) or not all([is_number_below(place, many) for place in value]):
        return False
    return len(set(value)) == len(value)


def orders_holds(base, versions, value):
    """Whether any value tells rightly why all orders of all versions end with one text, or why not."""
    base = need_text(base, -1)
    versions = need_any_versions(versions)
    if is_tuple_of(value, 2) and is_word(value[0], "clash"):
        if not is_order_paper(value[1], len(versions)) or value[1] == ():
            return False
        ahead = end_of_hands(base, versions, value[1][:-1])
        return ahead is not None and end_of_hands(base, versions, value[1]) is None
    if is_tuple_of(value, 3) and is_word(value[0], "apart"):
        if not all([is_order_paper(order, len(versions)) for order in value[1:]]):
            return False
        if sorted(value[1]) != sorted(value[2]):
            return False
        came, other = end_of_hands(base, versions, value[1]), end_of_hands(base, versions, value[2])
        return None not in (came, other) and came != other
    return same_paper(value, paper_of_orders(base, versions))


def needed_ends(base, mine):
    """How a yours begins, and how it ends, with which both sides go."""
    return base[:len(base) - end_length(base, mine)], base[front_length(base, mine):]


def need_letters(letters, texts):
    """Raises where this is no number from 1 to 100 above all letters of the texts."""
    if not is_integer(letters) or letters < 1 or letters > MOST_LETTERS:
        raise InvalidSize("letters")
    if any([letter >= letters for text in texts for letter in text]):
        raise InvalidSize("letters")


def need_length(length):
    """Raises where this is no number."""
    if not is_number(length):
        raise InvalidSize("length")


def count_between(front, back, letters, length):
    """How many texts of this length begin and end so."""
    free = length - len(front) - len(back)
    if free < 0:
        # Both overlap by as many letters, or do not fit in at all.
        fits = max(len(front), len(back)) <= length and front[free:] == back[:-free]
        return 1 if fits else 0
    count = 1
    for _ in range(free):
        count = count * letters
    return count


def need_yours_asked(base, mine, letters, length):
    """How yours begins and ends, of arguments that are right."""
    base, mine = need_text(base, 0), need_text(mine, 1)
    need_letters(letters, (base, mine))
    need_length(length)
    return needed_ends(base, mine)


def both_count(base, mine, letters, length):
    """How many texts of this length are a yours with which both sides go."""
    front, back = need_yours_asked(base, mine, letters, length)
    return count_between(front, back, letters, length)


def nth_both(base, mine, letters, length, index):
    """The yours of this length, with which both sides go, with so many ahead of it."""
    front, back = need_yours_asked(base, mine, letters, length)
    if not is_number_below(index, count_between(front, back, letters, length)):
        raise InvalidIndex(-1)
    free = length - len(front) - len(back)
    if free < 0:
        return front + back[-free:]
    between = []
    for _ in range(free):
        between.append(index % letters)
        index = index // letters
    return front + tuple(between[::-1]) + back


def alike_yours(base, mine, length):
    """All yours of at most this length with which both sides go and bring one text, shorter ones first."""
    base, mine = need_text(base, 0), need_text(mine, 1)
    need_length(length)
    if mine == base:
        raise Refused(-1)
    form = form_of(base, mine)
    if form is None:
        return (base,) if len(base) <= length else ()
    front, block, back, times, others = form
    found = []
    text = front + block * max(times - others, 0) + back
    while len(text) <= length:
        found.append(text)
        text = front + block + text[len(front):]
    return tuple(found)
