"""Labels: marks of texts, when merges settle them, and what is kept of them."""

from cancelsback.checks import is_number, is_number_below, is_row_of, is_sequence, is_text_paper, is_tuple_of, is_word
from cancelsback.checks import same_paper, text_or_none
from cancelsback.errors import InvalidLabel, InvalidMarks, InvalidText
from cancelsback.merges import merged
from cancelsback.ways import first_ways_along

MOST_PLACES = 8
MOST_LETTERS = 3


def need_moves(values):
    """The rows of places to which letters lead, as tuples."""
    if not is_sequence(values) or len(values) < 1 or len(values) > MOST_PLACES:
        raise InvalidLabel(-1)
    rows = []
    for at, row in enumerate(values):
        if not is_sequence(row) or len(row) < 1 or len(row) > MOST_LETTERS:
            raise InvalidLabel(at)
        if not all([is_number_below(place, len(values)) for place in row]):
            raise InvalidLabel(at)
        if at > 0 and len(row) != len(rows[0]):
            raise InvalidLabel(at)
        rows.append(tuple(row))
    return tuple(rows)


def need_marks(values, many):
    """So many marks as a tuple."""
    if not is_row_of(values, many):
        raise InvalidMarks(-1)
    for at, value in enumerate(values):
        if not is_number(value):
            raise InvalidMarks(at)
    return tuple(values)


class Label:
    """Places with a move for each letter, and a mark for each place: the mark of the texts that lead there."""

    def __init__(self, moves, marks):
        self.moves = need_moves(moves)
        self.marks = need_marks(marks, len(self.moves))

    def __eq__(self, other):
        if not isinstance(other, Label):
            return False
        return self.moves == other.moves and self.marks == other.marks

    def mark_of(self, text):
        """The mark of the place to which the text leads from place 0."""
        letters = text_or_none(text)
        if letters is None or not all([letter < len(self.moves[0]) for letter in letters]):
            raise InvalidText(-1)
        return self.marks[place_along(self, 0, letters)]


def place_along(label, place, text):
    """The place to which a text that is surely one of its letters leads."""
    for letter in text:
        place = label.moves[place][letter]
    return place


def ways_to_places(label):
    """For each place to which texts lead, as they are reached, the first of these."""
    ties = [(place, letter, to) for place, row in enumerate(label.moves) for letter, to in enumerate(row)]
    return first_ways_along(0, ties)[0]


def unlike_fronts(label, ways):
    """Two merges with empty bases, unlike in what stands in front alone; None if there are none."""
    known = {}
    for place in ways:
        twin = known.setdefault(label.marks[place], place)
        for letter, to in enumerate(label.moves[place]):
            if label.marks[to] != label.marks[label.moves[twin][letter]]:
                return ((), ways[twin], (letter,)), ((), ways[place], (letter,))
    return None


def unlike_backs(label):
    """Two merges with empty bases, unlike in what stands behind alone; None if there are none."""
    for letter, moved in enumerate(label.moves[0]):
        ways = {(0, moved): ()}
        waiting = [(0, moved)]
        known = {}
        while waiting:
            pair = waiting.pop()
            marks = (label.marks[pair[0]], label.marks[pair[1]])
            twin = known.setdefault(marks[0], pair)
            if label.marks[twin[1]] != marks[1]:
                return ((), (letter,), ways[twin]), ((), (letter,), ways[pair])
            for other, to in enumerate(label.moves[pair[0]]):
                behind = (to, label.moves[pair[1]][other])
                if behind not in ways:
                    ways[behind] = ways[pair] + (other,)
                    waiting.append(behind)
    return None


def mark_texts(label, ways):
    """For each mark of texts, ascending, a text that has it."""
    texts = {}
    for place in ways:
        texts.setdefault(label.marks[place], ways[place])
    return {mark: texts[mark] for mark in sorted(texts)}


def product_rows(label, texts):
    """For each mark the marks of its text followed by each one's."""
    return tuple([tuple([label.mark_of(texts[one] + texts[other]) for other in texts]) for one in texts])


def unlike_bases(texts, products):
    """Two merges with one base and empty yours, alike in the mark of mine; None if the marks are a group."""
    marks = list(texts)
    for at, behind in enumerate(marks):
        known = {}
        for row, front in zip(products, marks):
            twin = known.setdefault(row[at], front)
            if twin != front:
                base = texts[behind]
                return (base, texts[twin] + base, ()), (base, texts[front] + base, ())
    return None


def settled_paper(label):
    """The marks of texts and their products, or two merges that show that the marks do not settle what comes."""
    ways = ways_to_places(label)
    merges = unlike_fronts(label, ways)
    if merges is None:
        merges = unlike_backs(label)
    if merges is not None:
        return ("unlike",) + merges
    texts = mark_texts(label, ways)
    products = product_rows(label, texts)
    merges = unlike_bases(texts, products)
    if merges is not None:
        return ("unlike",) + merges
    return "group", tuple(texts), products


def marks_of_merge(label, value):
    """The marks of base, mine and yours, and of what comes; None if any value is no merge of its letters that goes."""
    if not is_tuple_of(value, 3) or not all([is_text_paper(text) for text in value]):
        return None
    if not all([letter < len(label.moves[0]) for text in value for letter in text]):
        return None
    came = merged(value[0], value[1], value[2])
    if came is None:
        return None
    return tuple([label.mark_of(text) for text in value]), label.mark_of(came)


def settled_holds(label, value):
    """Whether any value is such a paper."""
    if is_tuple_of(value, 3) and is_word(value[0], "unlike"):
        one, other = marks_of_merge(label, value[1]), marks_of_merge(label, value[2])
        return one is not None and other is not None and one[0] == other[0] and one[1] != other[1]
    return same_paper(value, settled_paper(label))


def join_classes(classes, one, other):
    """Gives two classes of places the lesser one's number; whether they were unlike."""
    kept, gone = sorted([classes[one], classes[other]])
    for place in list(classes):
        if classes[place] == gone:
            classes[place] = kept
    return kept != gone


def join_by_moves(label, classes):
    """Makes places one that a letter leads from one class, or to one class; whether there were such."""
    grown = False
    for one in list(classes):
        for other in list(classes):
            for letter in range(len(label.moves[0])):
                to, twin = label.moves[one][letter], label.moves[other][letter]
                if classes[one] == classes[other] or classes[to] == classes[twin]:
                    grown = join_classes(classes, one, other) or grown
                    grown = join_classes(classes, to, twin) or grown
    return grown


def join_by_fronts(label, classes):
    """Makes places one to which texts of one class lead with a letter put ahead; whether there were such."""
    grown = False
    for moved in label.moves[0]:
        pairs = [(0, moved)]
        at = 0
        while at < len(pairs):
            one, other = pairs[at]
            at += 1
            for pair in pairs[:at]:
                if classes[pair[0]] == classes[one]:
                    grown = join_classes(classes, pair[1], other) or grown
            for letter, to in enumerate(label.moves[one]):
                behind = (to, label.moves[other][letter])
                if behind not in pairs:
                    pairs.append(behind)
    return grown


def kept_label(label):
    """The settled label that hangs on this one, on which all such labels hang."""
    ways = ways_to_places(label)
    firsts = {}
    classes = {place: firsts.setdefault(label.marks[place], place) for place in ways}
    grown = True
    while grown:
        grown = join_by_moves(label, classes)
        grown = join_by_fronts(label, classes) or grown
    ties = [(classes[place], letter, classes[to]) for place in ways for letter, to in enumerate(label.moves[place])]
    order = first_ways_along(classes[0], sorted({tie: True for tie in ties}))[0]
    numbers = {kept: at for at, kept in enumerate(order)}
    moves = [[numbers[classes[to]] for to in label.moves[kept]] for kept in order]
    return Label(moves, list(range(len(moves))))
