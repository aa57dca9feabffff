"""What merges keep: how often letters stand, sums of weights, places to which permutations lead."""

from math import gcd

from cancelsback.checks import is_integer, is_number, is_number_below, is_sequence, is_tuple_of, is_word
from cancelsback.checks import need_text, need_told
from cancelsback.errors import InvalidSize
from cancelsback.lattices import Lattice, less, multiples_for
from cancelsback.webs import is_read, web_of_texts


def letter_count(texts):
    """How many letters there are from 0 to the greatest one in these texts."""
    return max([0] + [letter + 1 for text in texts for letter in text])


def counts_of(text, letters):
    """How often each letter stands in the text."""
    counts = [0] * letters
    for letter in text:
        counts[letter] += 1
    return tuple(counts)


def counts_apart(texts, text):
    """What the told versions and what the text have more of each letter than the first version."""
    letters = letter_count(texts + (text,))
    first = counts_of(texts[0], letters)
    return [less(counts_of(told, letters), first) for told in texts[1:]], less(counts_of(text, letters), first)


def weighed(row, weights):
    """The sum of the row's numbers, each so many times."""
    return sum([number * weight for number, weight in zip(row, weights)])


def rest_paper(rows, wanted):
    """Weights and a modulus by which all rows have the rest 0 and the wanted row, none of their sums, does not."""
    lattice = Lattice(len(wanted))
    for row in rows:
        lattice.take_row(row)
    rest = lattice.rest_of(wanted)
    at = [place for place, number in enumerate(rest) if number != 0][0]
    weights = [0] * len(wanted)
    weights[at] = 1
    modulus = lattice.lead_rows[at][at] if at in lattice.lead_rows else 0
    # By weights parted by the modulus the row of this lead has the sum 1, the rest no integer: rows ahead get 0.
    for lead in sorted(lattice.lead_rows)[::-1]:
        if lead < at:
            row = lattice.lead_rows[lead]
            total = weighed(row, weights)
            weights = [weight * row[lead] for weight in weights]
            weights[lead] = -total
            modulus = modulus * row[lead]
    shared = modulus
    for weight in weights:
        shared = gcd(shared, weight)
    modulus = modulus // shared
    weights = [weight // shared for weight in weights]
    return "rest", tuple([weight % modulus if modulus > 0 else weight for weight in weights]), modulus


def counts_paper(texts, text):
    """Multiples of told versions by which the text has its letters, or weights by which it has another rest."""
    texts, text = need_told(texts), need_text(text, -1)
    rows, wanted = counts_apart(texts, text)
    multiples = multiples_for(rows, wanted)
    if multiples is not None:
        return "counts", multiples
    return rest_paper(rows, wanted)


def are_integers(value, many):
    """Whether any value is a tuple of so many integers."""
    return is_tuple_of(value, many) and all([is_integer(number) for number in value])


def divides(modulus, number):
    """Whether the number has the rest 0; by the modulus 0 only 0 has."""
    return number == 0 if modulus == 0 else number % modulus == 0


def counts_hold(texts, text, value):
    """Whether any value is such a paper."""
    texts, text = need_told(texts), need_text(text, -1)
    rows, wanted = counts_apart(texts, text)
    if is_tuple_of(value, 2) and is_word(value[0], "counts"):
        if not are_integers(value[1], len(rows)):
            return False
        return all([weighed([row[letter] for row in rows], value[1]) == number for letter, number in enumerate(wanted)])
    if not is_tuple_of(value, 3) or not is_word(value[0], "rest") or not are_integers(value[1], len(wanted)):
        return False
    weights, modulus = value[1], value[2]
    if not is_number(modulus) or modulus == 1 or divides(modulus, weighed(wanted, weights)):
        return False
    return all([divides(modulus, weighed(row, weights)) for row in rows])


def sum_rest(texts, weights):
    """The greatest modulus by which all told versions have one rest of their sums, and this rest."""
    texts = need_told(texts)
    if not is_sequence(weights) or len(weights) != letter_count(texts):
        raise InvalidSize("weights")
    if not all([is_integer(weight) for weight in weights]):
        raise InvalidSize("weights")
    sums = [sum([weights[letter] for letter in text]) for text in texts]
    modulus = 0
    for total in sums:
        modulus = gcd(modulus, total - sums[0])
    return (modulus, sums[0] % modulus) if modulus > 0 else (0, sums[0])


def whole_permutation(moves, many):
    """The permutation of so many places that has these moves {place: place}, no two to one place."""
    reached = {moves[place]: True for place in moves}
    free = [place for place in range(many) if place not in reached]
    row = []
    used = 0
    for place in range(many):
        if place in moves:
            row.append(moves[place])
        else:
            row.append(free[used])
            used += 1
    return tuple(row)


def barring_points(texts, text):
    """Permutations and a place that the told versions lead to one place, the text to another; None if it can come."""
    texts, text = need_told(texts), need_text(text, -1)
    web = web_of_texts(texts)
    if is_read(web, text):
        return None
    moves = [{} for _ in range(letter_count(texts + (text,)))]
    for begin, letter, end in web.ties:
        moves[letter][begin] = end
    many = web.places
    place = web.start
    for letter in text:
        if place not in moves[letter]:
            # No other letter leads to a new place: so each letter still leads to one place from one.
            moves[letter][place] = many
            many += 1
        place = moves[letter][place]
    return tuple([whole_permutation(row, many) for row in moves]), web.start


def is_permutation(value, many):
    """Whether any value is a permutation of so many numbers."""
    if not is_tuple_of(value, many) or not all([is_number_below(number, many) for number in value]):
        return False
    return len(set(value)) == many


def place_led_to(permutations, place, text):
    """The place to which the permutations of the text's letters lead in turn."""
    for letter in text:
        place = permutations[letter][place]
    return place


def bars_text(texts, text, value):
    """Whether any value is a pair of permutations and a place that bars the text."""
    texts, text = need_told(texts), need_text(text, -1)
    letters = letter_count(texts + (text,))
    if not is_tuple_of(value, 2) or not is_tuple_of(value[0], letters) or letters == 0:
        return False
    permutations, place = value
    if not isinstance(permutations[0], tuple) or not is_number_below(place, len(permutations[0])):
        return False
    if not all([is_permutation(row, len(permutations[0])) for row in permutations]):
        return False
    ends = [place_led_to(permutations, place, told) for told in texts]
    return len(set(ends)) == 1 and place_led_to(permutations, place, text) != ends[0]
