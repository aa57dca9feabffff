"""Shown tables of merges: what is known of whole tables that have their cells."""

from cancelsback.checks import is_integer, is_number_below, is_row_of, is_sequence, is_text_paper, is_tuple_of, is_word
from cancelsback.checks import text_or_none
from cancelsback.errors import InvalidCells, InvalidSize, Refused
from cancelsback.merges import end_length, front_length, merged
from cancelsback.texts import product_by_turns, text_of

MOST_HANDS = 6
MOST_BLOCKS = 3


def is_hand_count(value):
    """Whether so many rows or columns may be."""
    return is_integer(value) and 1 <= value <= MOST_HANDS


def cell_or_none(value, rows, columns):
    """The cell as a tuple, None if it is none."""
    if not is_row_of(value, 3):
        return None
    row, column, text = value[0], value[1], text_or_none(value[2])
    if not is_number_below(row, rows) or not is_number_below(column, columns) or text is None:
        return None
    return row, column, text


def need_cells(values, rows, columns):
    """The cells as an ascending tuple."""
    if not is_sequence(values):
        raise InvalidCells(-1)
    texts = {}
    for at, value in enumerate(values):
        cell = cell_or_none(value, rows, columns)
        if cell is None or (cell[0], cell[1]) in texts:
            raise InvalidCells(at)
        texts[(cell[0], cell[1])] = cell[2]
    return tuple([(row, column, texts[(row, column)]) for row, column in sorted(texts)])


class ShownTable:
    """A table of which some cells are shown."""

    def __init__(self, rows, columns, cells):
        if not is_hand_count(rows):
            raise InvalidSize("rows")
        if not is_hand_count(columns):
            raise InvalidSize("columns")
        self.rows = rows
        self.columns = columns
        self.cells = need_cells(cells, rows, columns)

    def __eq__(self, other):
        if not isinstance(other, ShownTable):
            return False
        return self.rows == other.rows and self.columns == other.columns and self.cells == other.cells


def need_table(table):
    """Raises where this is no shown table."""
    if not isinstance(table, ShownTable):
        raise InvalidCells(-1)


def shown_texts(table):
    """The shown texts by their places."""
    return {(row, column): text for row, column, text in table.cells}


def ways_from(table, row):
    """For each row and column that hangs together with this row the shortest way to it, as a row of shown places."""
    row_ways = {row: ()}
    column_ways = {}
    grown = True
    while grown:
        grown = False
        for at, to, _ in table.cells:
            if at in row_ways and to not in column_ways:
                column_ways[to] = row_ways[at] + ((at, to),)
                grown = True
            if to in column_ways and at not in row_ways:
                row_ways[at] = column_ways[to] + ((at, to),)
                grown = True
    return row_ways, column_ways


def blocks_of(table):
    """Ascending pairs (rows, columns) that hang together by shown cells."""
    blocks = []
    placed = {}
    for row in range(table.rows):
        if row not in placed:
            row_ways, column_ways = ways_from(table, row)
            for other in row_ways:
                placed[other] = True
            blocks.append((tuple(sorted(row_ways)), tuple(sorted(column_ways))))
    shown = {column: True for _, column, _ in table.cells}
    for column in range(table.columns):
        if column not in shown:
            blocks.append(((), (column,)))
    return tuple(sorted(blocks))


def table_blocks(table):
    """The rows and columns that hang together by shown cells, lone ones by themselves."""
    need_table(table)
    return blocks_of(table)


def blocks_with_cells(table):
    """The blocks that have cells."""
    return [block for block in blocks_of(table) if block[0] and block[1]]


def has_lone_hand(table):
    """Whether a row or a column stands alone."""
    return len(blocks_with_cells(table)) < len(blocks_of(table))


def way_product(texts, way):
    """The struck word that the way makes of the shown texts."""
    return product_by_turns([texts[place] for place in way])


def known_ways(table):
    """For each place in a row and a column of one block a way that leads to it."""
    ways = {}
    for row in range(table.rows):
        column_ways = ways_from(table, row)[1]
        for column in sorted(column_ways):
            ways[(row, column)] = column_ways[column]
    return ways


def unlike_ways(table):
    """Two ways that lead to one place with unlike products, None if there are none."""
    texts = shown_texts(table)
    for rows, columns in blocks_with_cells(table):
        row_ways, column_ways = ways_from(table, rows[0])
        for place in texts:
            row, column = place
            if column in columns:
                # A block agrees with itself exactly if each of its cells agrees with the ways from one row.
                around = row_ways[row] + (place,)
                if way_product(texts, around) != way_product(texts, column_ways[column]):
                    return column_ways[column], around
    return None


def bar_or_none(table):
    """What bars all whole tables, None if nothing does."""
    ways = unlike_ways(table)
    if ways is not None:
        return ("unlike",) + ways
    texts = shown_texts(table)
    known = known_ways(table)
    for place in known:
        if text_of(way_product(texts, known[place])) is None:
            return "clash", known[place]
    return None


def need_open(table):
    """Raises where no whole table has the cells."""
    if bar_or_none(table) is not None:
        raise Refused(-1)


def known_texts(table):
    """The texts in a row and a column of one block by their places, where nothing bars a whole table."""
    texts = shown_texts(table)
    known = known_ways(table)
    return {place: text_of(way_product(texts, known[place])) for place in known}


def known_cells(table):
    """Ascending triples: each cell in a row and a column of one block."""
    need_table(table)
    need_open(table)
    known = known_texts(table)
    return tuple([(row, column, known[(row, column)]) for row, column in sorted(known)])


def common_end_length(texts):
    """The length of the longest common end of all texts."""
    return min([end_length(texts[0], text) for text in texts])


def common_front_length(texts):
    """The length of the longest common beginning of all texts."""
    return min([front_length(texts[0], text) for text in texts])


def form_of_block(known, rows, columns):
    """Fronts, kernel and behinds of a block whose texts are known."""
    first = [known[(row, columns[0])] for row in rows]
    kept = common_end_length(first)
    fronts = tuple([text[:len(text) - kept] for text in first])
    ends = [known[(rows[0], column)][len(fronts[0]):] for column in columns]
    shared = common_front_length(ends)
    return fronts, ends[0][:shared], tuple([text[shared:] for text in ends])


def forms_of(table):
    """The form of each block with cells, where nothing bars a whole table."""
    known = known_texts(table)
    return [form_of_block(known, rows, columns) for rows, columns in blocks_with_cells(table)]


def block_forms(table):
    """For each block with cells its fronts, its kernel and its behinds."""
    need_table(table)
    need_open(table)
    return tuple(forms_of(table))


def whole_table(table):
    """Some whole table that has the cells, where nothing bars it."""
    fronts = [()] * table.rows
    behinds = [()] * table.columns
    forms = forms_of(table)
    for at, block in enumerate(blocks_with_cells(table)):
        block_fronts, kernel, block_behinds = forms[at]
        # Kernels may stand with the fronts everywhere: so no front meets a behind that it does not fit.
        for row, front in zip(block[0], block_fronts):
            fronts[row] = front + kernel
        for column, behind in zip(block[1], block_behinds):
            behinds[column] = behind
    return tuple([tuple([front + behind for behind in behinds]) for front in fronts])


def table_paper(table):
    """Some whole table that has the cells, or what bars it."""
    need_table(table)
    bar = bar_or_none(table)
    return ("goes", whole_table(table)) if bar is None else bar


def is_whole_table(table, rows):
    """Whether any value is a whole table that has the cells."""
    if not is_tuple_of(rows, table.rows):
        return False
    for row in rows:
        if not is_tuple_of(row, table.columns) or not all([is_text_paper(text) for text in row]):
            return False
    if any([rows[at][to] != text for at, to, text in table.cells]):
        return False
    for row in rows:
        for column, text in enumerate(row):
            if merged(rows[0][0], row[0], rows[0][column]) != text:
                return False
    return True


def is_way(texts, value):
    """Whether any value is a way along shown places."""
    if not isinstance(value, tuple) or len(value) % 2 == 0:
        return False
    for place in value:
        if not is_tuple_of(place, 2) or not is_integer(place[0]) or not is_integer(place[1]) or place not in texts:
            return False
    for at in range(1, len(value)):
        side = at % 2
        if value[at - 1][side] != value[at][side]:
            return False
    return True


def table_holds(table, value):
    """Whether any value is a whole table that has the cells, or bars all."""
    need_table(table)
    texts = shown_texts(table)
    if is_tuple_of(value, 2) and is_word(value[0], "goes"):
        return is_whole_table(table, value[1])
    if is_tuple_of(value, 2) and is_word(value[0], "clash"):
        return is_way(texts, value[1]) and text_of(way_product(texts, value[1])) is None
    if is_tuple_of(value, 3) and is_word(value[0], "unlike"):
        way, other = value[1], value[2]
        if not is_way(texts, way) or not is_way(texts, other):
            return False
        if way[0][0] != other[0][0] or way[-1][1] != other[-1][1]:
            return False
        return way_product(texts, way) != way_product(texts, other)
    return False


def mixed_texts(front_kernel, end_kernel):
    """All unlike texts that are a beginning of the one with an end of the other behind it, ascending."""
    texts = set()
    for cut in range(len(front_kernel) + 1):
        for at in range(len(end_kernel) + 1):
            texts.add(front_kernel[:cut] + end_kernel[at:])
    return sorted(texts)


def first_rows(kernels):
    """The first rows of all whole tables with these kernels, one to three, from corner to corner."""
    if len(kernels) == 1:
        return [(kernels[0],)]
    seconds = mixed_texts(kernels[0], kernels[1])
    if len(kernels) == 2:
        return [(kernels[0], second) for second in seconds]
    rows = []
    for third in mixed_texts(kernels[0], kernels[2]):
        for second in seconds:
            if merged(second, kernels[1], third) is not None and merged(third, kernels[2], second) is not None:
                rows.append((kernels[0], second, third))
    return rows


def need_few_blocks(table):
    """Raises where more blocks have cells than can be counted."""
    if len(blocks_with_cells(table)) > MOST_BLOCKS:
        raise InvalidSize("blocks")


def table_count(table):
    """How many whole tables have the cells, None if endlessly many."""
    need_table(table)
    need_open(table)
    need_few_blocks(table)
    if has_lone_hand(table):
        return None
    return len(first_rows([kernel for _, kernel, _ in forms_of(table)]))


def block_place(blocks, side, hand):
    """The number of the block with this row (side 0) or column (side 1), and its place there; None if it is alone."""
    for at, block in enumerate(blocks):
        if hand in block[side]:
            return at, block[side].index(hand)
    return None


def cell_texts(table, row, column):
    """All texts that whole tables have at this place, None if its row or column stands alone."""
    need_table(table)
    if not is_number_below(row, table.rows):
        raise InvalidSize("row")
    if not is_number_below(column, table.columns):
        raise InvalidSize("column")
    need_open(table)
    need_few_blocks(table)
    blocks = blocks_with_cells(table)
    above, beside = block_place(blocks, 0, row), block_place(blocks, 1, column)
    if above is None or beside is None:
        return None
    forms = forms_of(table)
    kernels = [kernel for _, kernel, _ in forms]
    front = forms[above[0]][0][above[1]]
    behind = forms[beside[0]][2][beside[1]]
    texts = set()
    for first in first_rows(kernels):
        texts.add(front + merged(first[above[0]], kernels[above[0]], first[beside[0]]) + behind)
    return tuple(sorted(texts))
