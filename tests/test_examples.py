"""The rows of the document that begin with the sign of Python's prompt, of the chapters that are built."""

import doctest
import unittest

ROWS = {
    "chapter 1": """
    >>> from cancelsback.merges import merge_texts
    >>> merge_texts((1, 2, 3), (4, 2, 3), (1, 2, 5, 6)), merge_texts((1, 2), (1, 3), (1, 4))
    ((4, 2, 5, 6), None)
    """,
    "chapter 4": """
    >>> from cancelsback.merges import clash_lines, history_texts, merge_cuts, merge_texts, merge_word, missing_base
    >>> merge_texts((1, 2, 2, 3), (4, 2, 2, 3), (1, 2, 2, 5)), merge_cuts((1, 2, 2, 3), (4, 2, 2, 3), (1, 2, 2, 5))
    ((4, 2, 2, 5), (1, 2, 3))
    >>> clash_lines((1, 2), (1, 3), (1, 4)), merge_word((1, 2), (1, 3), (1, 4))
    ((1, 2), ((1, 1), (3, 1), (2, -1), (4, 1)))
    >>> missing_base((4, 2, 2, 3), (1, 2, 2, 5), (4, 2, 2, 5)), history_texts([("told", [1]), ("told", []), ("merge", 1, 0, 0)])
    ((1, 2, 2, 3), ((1,), (), (1, 1)))
    >>> from cancelsback.merges import pair_count, pick_row, row_change
    >>> row_change([((1,), (2, 3)), ((2, 3, 4), (5,))]), pick_row((1, 4), [("front", (1,), ()), ("back", (4,), (6,))])
    (('change', (1, 4), (5,)), ('comes', (6,)))
    >>> pair_count((1, 2), (2,))
    5
    """,
    "chapter 5": """
    >>> from cancelsback.coming import closed_paper, coming_count, coming_holds, endless_paper, least_told, row_text
    >>> history = (("told", (1, 2)), ("told", (1, 3, 2)), ("merge", 0, 1, 1))
    >>> coming_holds([(1, 2), (1, 3, 2)], (1, 3, 3, 2), ("comes", history))
    True
    >>> row_text([(1, 2), (3, 2), (1, 4)], (1, 0, 2)), closed_paper([(1, 2), (3, 2), (1, 4)])
    ((3, 4), ('adds', (0, 1, 2)))
    >>> endless_paper([(1, 2), (3, 2), (1, 4)]), coming_count([(1, 2), (1, 3, 2)], 5), least_told(7)
    (('finite', 4), 1, 5)
    """,
    "chapter 6": """
    >>> from cancelsback.fewest import fewest_count, least_lot, lot_paper, needless_texts, stand_ins, version_row
    >>> from cancelsback.webs import told_web
    >>> web = told_web([(0, 1), (0, 2, 1), (0, 2, 2, 1)])
    >>> fewest_count(web), least_lot(web), needless_texts([(0, 1), (0, 2, 1), (0, 2, 2, 1)])
    (2, ((0, 1), (0, 2, 1)), ((0, 1), (0, 2, 2, 1)))
    >>> lot_paper([(0,), (0, 0, 0)])[0], version_row([(0,), (0, 0)], (0, 0, 0)), stand_ins([(0,), (0, 0)], (0, 0, 0))
    ('fewest', (1, 0, 1), (0,))
    """,
    "chapter 7": """
    >>> from cancelsback.chains import chain_text, clean_bases
    >>> from cancelsback.levels import branch_begins, order_count
    >>> chain = ((1, 2, 1), (1, 2, 2, 1), (1, 2, 1), (1, 1, 1, 1), (1, 2, 1), (1, 2, 2, 1), (1, 2, 1))
    >>> chain_text(chain), clean_bases(chain), order_count(chain), branch_begins(chain)
    ((), (1, 5), 2, ())
    """,
    "chapter 8": """
    >>> from cancelsback.apart import fewest_apart
    >>> fewest_apart([(1, 2, 3), (4, 2, 3), (1, 2, 5), (4, 2, 5)])
    (3, 3, 4, 4)
    """,
    "chapter 9": """
    >>> from cancelsback.sides import alike_paper, both_count, both_sides
    >>> both_sides((0,), (0, 1), (2, 0)), both_count((0, 1), (0, 2, 1), 3, 4)
    ((None, (2, 0, 1)), 9)
    >>> alike_paper((0, 1), (0, 1, 1), (0, 1, 1))
    ('block', (0,), (1,), (), (1, 2, 2))
    """,
    "chapter 10": """
    >>> from cancelsback.histories import elder_fault, margin_pairs, plan_rows, plan_texts, rounds_paper
    >>> plan = [("version", 0), ("version", 1), ("merge", 0, 1, 1), ("merge", 1, 2, 0)]
    >>> plan_rows(2, plan)[2:], plan_texts([(0, 0, 1), (0, 1)], plan)[2:], elder_fault(2, plan)
    (((1, 0, 1), (1,)), ((1,), (0, 1)), 3)
    >>> margin_pairs([(1,), (2,), (3,)], (0, 1, 2)), margin_pairs([(1,), (2,), ()], (0, 1, 2))
    ((), (((), (2,)),))
    >>> rounds_paper([(0, 1, 1, 2), (0, 1, 1, 1, 2)])
    ('block', (0,), (1,), (2,), (2, 3))
    """,
    "chapter 11": """
    >>> from cancelsback.kept import barring_points, counts_paper, sum_rest
    >>> from cancelsback.labels import Label, kept_label, settled_paper
    >>> counts_paper([(0, 0), (1, 1)], (0, 1))[0], counts_paper([(0,), (1, 0)], (0, 1)), sum_rest([(0, 0), (1, 1)], (1, 3))
    ('rest', ('counts', (1,)), (4, 2))
    >>> barring_points([(0,), (1, 0)], (0, 1)) is None, barring_points([(0,), (1, 0)], (1, 1, 0)) is None
    (False, True)
    >>> settled_paper(Label([(1, 0), (0, 1)], [3, 5])), settled_paper(Label([(1, 0), (1, 1)], [0, 1]))[0]
    (('group', (3, 5), ((3, 5), (5, 3))), 'unlike')
    >>> kept_label(Label([(1, 0), (2, 0), (3, 0), (0, 0)], [0, 1, 0, 1])).moves
    ((0, 0),)
    """,
    "chapter 12": """
    >>> from cancelsback.tables import ShownTable, cell_texts, table_count
    >>> table = ShownTable(2, 2, [(0, 0, (1, 2)), (1, 1, (2, 3))])
    >>> table_count(table), cell_texts(table, 1, 0)[:3]
    (8, ((), (1, 2), (2,)))
    """,
    "chapter 13": """
    >>> from cancelsback.amounts import bags_form, least_debt, lost_bags
    >>> told = [(1, 1, 1), (3, 0, 0), (0, 3, 0)]
    >>> bags_form(told)
    ((), (), (((0, 3, 0), ()), ((1, 1, 1), ()), ((3, 0, 0), ())))
    >>> lost_bags(told, 3), least_debt(told, (0, 0, 3))
    (((0, 0, 3),), 1)
    >>> bags_form([(2, 0), (0, 5), (4, 1)])
    ((0, 1), ((2, 1), (0, 6)), (((), (0, 5)),))
    """,
    "chapter 14": """
    >>> from cancelsback.releases import fewest_paper, lost_text, over_paper, ring_paper
    >>> over_paper([(0, 1), (0, 2, 1)], [(0, 1)], (0, 2, 2, 1))[0], over_paper([(0, 1), (0, 2, 1)], [(0, 2, 1)], (0, 2, 2, 1))[0]
    ('row', 'bars')
    >>> fewest_paper([(0, 1), (0, 2, 1)], [(0, 1)], (0, 2, 2, 1))[0]
    ((0, 2, 1), (0, 1), (0, 2, 1))
    >>> ring_paper([(0,), (0, 0)], [(0, 0)]), lost_text([(0,), (0, 0)], [(0,), (0, 0)], [(0, 0)])
    (('finite', 3), (0, 0, 0))
    >>> from cancelsback.desk import Desk
    >>> desk = Desk()
    >>> [desk.say(word) for word in ("start", "tell 0", "tell 0 0", "release 0", "comes 0 0 0", "lost 0", "merge 0 1 1")]
    ['none', '0', '1', 'done', 'yes', '0 0 0', '2']
    """,
}


class ExamplesTest(unittest.TestCase):

    def test_rows(self):
        for name, rows in ROWS.items():
            with self.subTest(name):
                example = doctest.DocTestParser().get_doctest(rows, {}, name, None, 0)
                told = []
                result = doctest.DocTestRunner(verbose=False).run(example, out=told.append)
                self.assertEqual((result.failed, told), (0, []))
                self.assertGreater(result.attempted, 1)
