"""Promises [50] and [51]: shown tables, what bars them, and whole tables that have their cells."""

import random
from itertools import product

from cancelsback.errors import InvalidCells, InvalidSize, Refused
from cancelsback.merges import merge_texts
from cancelsback.tables import ShownTable, block_forms, cell_texts, known_cells, table_blocks, table_count, table_holds
from cancelsback.tables import table_paper
from cancelsback.texts import text_word, word_text
from cancelsback.words import join_words, undo_word
from tests.support import Case, STRANGE, texts_to


def is_whole(table, rows):
    """Whether any four places of a full table agree, and the shown cells are there."""
    for i, k in product(range(table.rows), repeat=2):
        for j, m in product(range(table.columns), repeat=2):
            if merge_texts(rows[k][j], rows[i][j], rows[k][m]) != rows[i][m]:
                return False
    return all(rows[row][column] == text for row, column, text in table.cells)


def random_text(generator, length):
    return tuple(generator.randrange(2) for _ in range(generator.randint(0, length)))


def made_cells(generator, rows, columns, many, length=2):
    """Some cells of a whole table of fronts and behinds."""
    fronts = [random_text(generator, length) for _ in range(rows)]
    behinds = [random_text(generator, length) for _ in range(columns)]
    places = generator.sample(list(product(range(rows), range(columns))), many)
    return [(row, column, fronts[row] + behinds[column]) for row, column in places]


def random_table(generator, hands=3, length=2):
    rows, columns = generator.randint(1, hands), generator.randint(1, hands)
    cells = made_cells(generator, rows, columns, generator.randint(0, rows * columns), length)
    if cells and generator.random() < 0.5:
        at = generator.randrange(len(cells))
        cells[at] = cells[at][:2] + (random_text(generator, length),)
    return ShownTable(rows, columns, cells)


def product_of(texts, way):
    word = ()
    for at, place in enumerate(way):
        part = text_word(texts[place])
        word = join_words(word, undo_word(part) if at % 2 else part)
    return word


class ShownTableTest(Case):

    def test_attributes(self):
        table = ShownTable(2, 3, [[1, 2, [4]], (0, 0, ()), (0, 2, [1, 2])])
        self.assertEqual((table.rows, table.columns), (2, 3))
        self.assertEqual(table.cells, ((0, 0, ()), (0, 2, (1, 2)), (1, 2, (4,))))
        self.assertEqual(ShownTable(rows=1, columns=6, cells=()).cells, ())

    def test_later_changes_have_no_effect(self):
        cells = [[0, 0, [1]]]
        table = ShownTable(1, 1, cells)
        cells[0][2].append(5)
        cells.append(None)
        self.assertEqual(table.cells, ((0, 0, (1,)),))

    def test_compared(self):
        table = ShownTable(1, 2, [(0, 0, (1,)), (0, 1, (2,))])
        self.assertEqual(table, ShownTable(1, 2, [[0, 1, [2]], [0, 0, [1]]]))
        for other in (ShownTable(2, 2, table.cells), ShownTable(1, 3, table.cells), ShownTable(1, 2, table.cells[:1]),
                      None, 1, table.cells, (1, 2, table.cells)):
            self.assertIs(table == other, False)
            self.assertIs(table != other, True)

    def test_no_iteration_and_no_length(self):
        table = ShownTable(1, 1, ())
        self.assertRaises(TypeError, iter, table)
        self.assertRaises(TypeError, len, table)

    def test_wrong_ones(self):
        for wrong in (0, 7, -1, True, None, "2", (1,)):
            self.refuses(InvalidSize, "rows", ShownTable, wrong, wrong, None)
            self.refuses(InvalidSize, "columns", ShownTable, 6, wrong, None)
        for cells in (None, 3, True, "ab"):
            self.refuses(InvalidCells, -1, ShownTable, 2, 2, cells)
        good = (0, 0, (1,))
        for cell in (None, 1, "abc", (), (0, 1), (0, 2, ()), (2, 0, ()), (-1, 0, ()), (True, 0, ()), (0, 1, None),
                     (0, 1, (100,)), (0, 1, (True,)), (0, 0, ()), (0, 1, (), ()), ("0", 1, ())) + STRANGE:
            self.refuses(InvalidCells, 1, ShownTable, 2, 2, [good, cell, cell])

    def test_functions_want_a_table(self):
        for wrong in (None, 1, True, (), "a", (2, 2, ()), InvalidCells(0)):
            for function in (table_blocks, block_forms, known_cells, table_paper, table_count):
                self.refuses(InvalidCells, -1, function, wrong)
            self.refuses(InvalidCells, -1, table_holds, wrong, None)
            self.refuses(InvalidCells, -1, cell_texts, wrong, None, None)


class WholeTablesTest(Case):

    def test_blocks(self):
        table = ShownTable(4, 4, [(0, 2, ()), (2, 2, ()), (3, 0, ())])
        self.assertEqual(table_blocks(table), (((), (1,)), ((), (3,)), ((0, 2), (2,)), ((1,), ()), ((3,), (0,))))
        self.assertEqual(table_blocks(ShownTable(1, 1, ())), (((), (0,)), ((0,), ())))
        staircase = [(at, at, ()) for at in range(6)] + [(at + 1, at, ()) for at in range(5)]
        self.assertEqual(table_blocks(ShownTable(6, 6, staircase)), ((tuple(range(6)), tuple(range(6))),))

    def test_papers(self):
        generator = random.Random(50)
        words = []
        for _ in range(3000):
            table = random_table(generator, 4)
            paper = table_paper(table)
            self.assertIs(table_holds(table, paper), True)
            self.check_paper(table, paper)
            words.append(paper[0])
        self.assertEqual(set(words), {"goes", "clash", "unlike"})

    def check_paper(self, table, paper):
        texts = {(row, column): text for row, column, text in table.cells}
        if paper[0] == "goes":
            self.assertTrue(is_whole(table, paper[1]))
        elif paper[0] == "clash":
            self.check_way(texts, paper[1])
            self.assertIsNone(word_text(product_of(texts, paper[1])))
        else:
            one, other = paper[1:]
            self.check_way(texts, one)
            self.check_way(texts, other)
            self.assertEqual((one[0][0], one[-1][1]), (other[0][0], other[-1][1]))
            self.assertNotEqual(product_of(texts, one), product_of(texts, other))

    def check_way(self, texts, way):
        self.assertEqual(len(way) % 2, 1)
        for at, place in enumerate(way):
            self.assertIn(place, texts)
            if at:
                self.assertEqual(place[at % 2], way[at - 1][at % 2])

    def test_what_is_barred_has_no_whole_table(self):
        generator = random.Random(51)
        for _ in range(150):
            cells = [(row, column, random_text(generator, 2)) for row, column in product(range(2), repeat=2)]
            table = ShownTable(2, 2, generator.sample(cells, generator.randint(3, 4)))
            shown = {(row, column): text for row, column, text in table.cells}
            found = []
            for text in texts_to(6, 2) if len(shown) < 4 else [()]:
                grid = [[shown.get((i, j), text) for j in range(2)] for i in range(2)]
                if is_whole(table, grid):
                    found.append(grid)
            self.assertEqual(table_paper(table)[0] == "goes", bool(found))

    def test_papers_changed(self):
        table = ShownTable(2, 2, [(0, 0, (1, 2)), (1, 1, (2, 3))])
        good = ("goes", (((1, 2), (1, 2)), ((2, 3), (2, 3))))
        self.assertIs(table_holds(table, good), True)
        self.assertIs(table_holds(table, ("goes", (((1, 2), (1, 3)), ((2, 2), (2, 3))))), True)
        for value in (("goes", (((), ()), ((), ()))), ("goes", (((1, 2), (1, 2)), ((2,), (2,)))),
                      ("goes", (((1,), (1,)), ((2, 3), (2, 3)))), ("goes", (((1, 2), (1, 2)), ((2, 3), (2, 2)))), ("goes", (((1, 2), (1, 2)), ((2,), (2, 3)))),
                      ("goes", (((1, 2), (1, 2)),)), ("goes", (((1, 2), [1, 2]), ((2, 3), (2, 3)))), list(good),
                      ("goes", [((1, 2), (1, 2)), ((2, 3), (2, 3))]), ("goes", (((True, 2), (1, 2)), ((2, 3), (2, 3)))),
                      ("goes",), good + (0,), ("went", good[1]), ("clash", ((0, 0),)), ("clash", ()), ("unlike", ((0, 0),), ((0, 0),)),
                      ("goes", (((1, 2), (1, 2), ()), ((2, 3), (2, 3), ()))), ("goes", None), ("goes", (None, None))):
            self.assertIs(table_holds(table, value), False, value)
        for value in STRANGE:
            self.assertIs(table_holds(table, value), False, value)

    def test_ways_changed(self):
        table = ShownTable(2, 2, [(0, 0, (1,)), (1, 0, (2,)), (1, 1, (3,))])
        way = ((0, 0), (1, 0), (1, 1))
        self.assertIs(table_holds(table, ("clash", way)), True)
        longer = ((0, 0), (0, 0)) + way
        for value, holds in ((("clash", longer), True), (("clash", way[::-1]), False), (("clash", way[:1]), False),
                             (("clash", way[:2]), False), (("clash", list(way)), False), (("clash", ()), False),
                             (("clash", ((0, 0), [1, 0], (1, 1))), False), (("clash", ((0, 0), (True, 0), (1, 1))), False),
                             (("clash", ((0, 0), (1, 0), (0, 1))), False), (("clash", None), False),
                             (("clash", ((0, 0), (1, 1), (1, 1))), False), (("clash", way, way), False),
                             (("clash", ((0, 0), (1, 1), (1, 0))), False), (("clash", ((0, 0), (0, 0), (0, 1))), False),
                             (("clash", ((0, 0), (1, False), (1, 1))), False), (("crash", way), False)):
            self.assertIs(table_holds(table, value), holds, value)
        table = ShownTable(2, 2, [(0, 0, ()), (1, 0, (1,)), (1, 1, (1, 2)), (0, 1, (3,))])
        self.assertEqual(table_paper(table)[0], "unlike")
        self.assertIs(table_holds(table, ("unlike", way, ((0, 1),))), True)
        self.assertIs(table_holds(table, ("unlike", ((0, 1),), way)), True)
        for value in (("unlike", way, way), ("unlike", way, ((0, 0),)), ("unlike", way, ((1, 1),)), ("unlike", way),
                      ("unlike", way, ()), ("alike", way, ((0, 1),)), ("unlike", way, [(0, 1)]), ("clash", way), ("unlike", None, way)):
            self.assertIs(table_holds(table, value), False, value)

    def test_known_cells(self):
        table = ShownTable(3, 3, [(0, 0, (1, 2)), (0, 1, (1, 3)), (1, 0, (2,)), (2, 2, (5,))])
        self.assertEqual(known_cells(table), ((0, 0, (1, 2)), (0, 1, (1, 3)), (1, 0, (2,)), (1, 1, (3,)), (2, 2, (5,))))
        self.assertEqual(known_cells(ShownTable(2, 2, ())), ())

    def test_forms(self):
        table = ShownTable(3, 3, [(0, 0, (1, 2)), (0, 1, (1, 3)), (1, 0, (2,)), (2, 2, (5,))])
        self.assertEqual(block_forms(table), ((((1,), ()), (), ((2,), (3,))), (((),), (5,), ((),))))
        generator = random.Random(52)
        for _ in range(1500):
            table = random_table(generator, 4, 3)
            if table_paper(table)[0] == "goes":
                self.check_forms(table)

    def check_forms(self, table):
        known = {(row, column): text for row, column, text in known_cells(table)}
        self.assertEqual(list(known), sorted(known))
        blocks = [block for block in table_blocks(table) if block[0] and block[1]]
        self.assertEqual(sorted(known), sorted(place for block in blocks for place in product(*block)))
        forms = block_forms(table)
        self.assertEqual(len(forms), len(blocks))
        for (rows, columns), (fronts, kernel, behinds) in zip(blocks, forms):
            self.assertEqual((len(fronts), len(behinds)), (len(rows), len(columns)))
            for row, front in zip(rows, fronts):
                for column, behind in zip(columns, behinds):
                    self.assertEqual(known[(row, column)], front + kernel + behind)
            self.assertTrue(len({front[-1:] for front in fronts}) > 1 or fronts[0] == ())
            self.assertTrue(len({behind[:1] for behind in behinds}) > 1 or behinds[0] == ())
        for row, column, text in table.cells:
            self.assertEqual(known[(row, column)], text)

    def test_barred_tables_are_refused(self):
        table = ShownTable(2, 2, [(0, 0, (1,)), (1, 0, (2,)), (1, 1, (3,))])
        for function in (known_cells, block_forms, table_count):
            self.refuses(Refused, -1, function, table)
        self.refuses(Refused, -1, cell_texts, table, 0, 0)
        barred = [(0, 0, (1,)), (1, 0, (2,)), (1, 1, (3,))] + [(at, at, ()) for at in range(2, 6)]
        self.refuses(Refused, -1, table_count, ShownTable(6, 6, barred))
        self.refuses(Refused, -1, cell_texts, ShownTable(6, 6, barred), 5, 5)


class CountsTest(Case):

    def whole_tables(self, table, most):
        """All whole tables with short texts in the first row and column, found by trying."""
        shown = {(row, column): text for row, column, text in table.cells}
        texts = texts_to(most, 2)
        found = []
        for first in product(*[[shown[(0, j)]] if (0, j) in shown else texts for j in range(table.columns)]):
            below = [[shown[(i, 0)]] if (i, 0) in shown else texts for i in range(1, table.rows)]
            for column in product(*below):
                grid = [tuple(first)]
                for start in column:
                    grid.append(tuple(merge_texts(first[0], start, text) for text in first))
                if all(text is not None for row in grid for text in row) and is_whole(table, grid):
                    found.append(tuple(grid))
        return sorted(set(found))

    def test_counts_by_trying(self):
        generator = random.Random(53)
        for _ in range(60):
            one, other = random_text(generator, 2), random_text(generator, 2)
            table = ShownTable(2, 2, [(0, 0, one), (1, 1, other)])
            self.compare(table, self.whole_tables(table, 4))
        for _ in range(6):
            texts = [random_text(generator, 1) for _ in range(3)]
            table = ShownTable(3, 3, [(at, at, text) for at, text in enumerate(texts)])
            self.compare(table, self.whole_tables(table, 2))

    def compare(self, table, wholes):
        self.assertEqual(table_count(table), len(wholes))
        for row, column in product(range(table.rows), range(table.columns)):
            expected = tuple(sorted({whole[row][column] for whole in wholes}))
            self.assertEqual(cell_texts(table, row, column), expected)

    def test_cells_of_greater_blocks(self):
        table = ShownTable(3, 3, [(0, 0, (0,)), (1, 0, (1,)), (2, 1, (0,)), (2, 2, (1,))])
        self.compare(table, self.whole_tables(table, 2))
        self.assertEqual(cell_texts(table, 0, 0), ((0,),))
        self.assertEqual(cell_texts(table, 1, 1), ((1, 0),))

    def test_two_blocks_are_mixed_texts(self):
        generator = random.Random(54)
        for _ in range(300):
            one, other = random_text(generator, 14), random_text(generator, 14)
            table = ShownTable(2, 2, [(0, 0, one), (1, 1, other)])
            mixed = {one[:cut] + other[at:] for cut in range(len(one) + 1) for at in range(len(other) + 1)}
            self.assertEqual(table_count(table), len(mixed))
            self.assertEqual(cell_texts(table, 0, 1), tuple(sorted(mixed)))

    def test_one_block_and_lone_hands(self):
        whole = ShownTable(2, 2, [(0, 0, (1,)), (0, 1, (2,)), (1, 0, (1,))])
        self.assertEqual(table_count(whole), 1)
        self.assertEqual(cell_texts(whole, 1, 1), ((2,),))
        lone = ShownTable(3, 2, [(0, 0, (1,)), (0, 1, (2,)), (1, 0, (1,))])
        self.assertIsNone(table_count(lone))
        self.assertIsNone(cell_texts(lone, 2, 0))
        self.assertEqual(cell_texts(lone, 1, 1), ((2,),))
        self.assertIsNone(table_count(ShownTable(1, 1, ())))
        self.assertIsNone(cell_texts(ShownTable(1, 1, ()), 0, 0))
        wide = ShownTable(1, 3, [(0, 0, (1, 2)), (0, 1, ())])
        self.assertIsNone(table_count(wide))
        self.assertIsNone(cell_texts(wide, 0, 2))
        self.assertEqual(cell_texts(wide, 0, 0), ((1, 2),))

    def test_greatest_tables(self):
        kernels = [tuple((at * 3 + number) % 7 for at in range(14)) for number in range(3)]
        cells = [(at, at, kernels[at % 3]) for at in range(3)] + [(at + 3, at, kernels[at]) for at in range(3)]
        cells += [(at, at + 3, kernels[at]) for at in range(3)]
        table = ShownTable(6, 6, cells)
        many = table_count(table)
        self.assertGreater(many, 1000)
        texts = cell_texts(table, 3, 4)
        self.assertEqual(texts, tuple(sorted(set(texts))))
        self.assertIn(kernels[0], texts)

    def test_four_blocks(self):
        table = ShownTable(5, 5, [(at, at, ()) for at in range(4)])
        self.refuses(InvalidSize, "blocks", table_count, table)
        self.refuses(InvalidSize, "blocks", cell_texts, table, 4, 4)
        self.assertIs(table_holds(table, table_paper(table)), True)

    def test_wrong_places(self):
        table = ShownTable(2, 3, [(0, 0, ())])
        for row in (2, -1, True, None, "0", (0,)):
            self.refuses(InvalidSize, "row", cell_texts, table, row, None)
        for column in (3, -1, True, None, "0", (0,)):
            self.refuses(InvalidSize, "column", cell_texts, table, 1, column)
        barred = ShownTable(2, 2, [(0, 0, (1,)), (1, 0, (2,)), (1, 1, (3,))])
        self.refuses(InvalidSize, "column", cell_texts, barred, 1, 2)
