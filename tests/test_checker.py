"""Promise [58]: sheets."""

import random
from itertools import product

from cancelsback.checker import make_sheet, sheet_holds, wrong_sheets
from cancelsback.coming import coming_holds, coming_paper
from cancelsback.desk import Desk
from cancelsback.errors import InvalidBases, InvalidText, InvalidTexts, InvalidWord, Refused
from cancelsback.fewest import lot_holds, lot_paper
from cancelsback.kept import counts_hold, counts_paper
from cancelsback.labels import Label
from cancelsback.live import Live
from cancelsback.releases import over_holds, over_paper
from cancelsback.sides import alike_holds, alike_paper
from cancelsback.webs import Web, fold_steps, folds_hold
from cancelsback.words import strike_pairs, strikes_hold
from tests.support import Case, STRANGE, as_lists, holds_list, random_lot

PAIRS = {"strike": (strike_pairs, strikes_hold), "fold": (fold_steps, folds_hold), "comes": (coming_paper, coming_holds),
         "lot": (lot_paper, lot_holds), "alike": (alike_paper, alike_holds), "counts": (counts_paper, counts_hold),
         "over": (over_paper, over_holds)}
TOLD = ((0, 1), (0, 2, 1))
QUESTIONS = {
    "strike": [(((0, 1), (1, 1), (1, -1)),), ((),)],
    "fold": [(TOLD,), (((0,),),)],
    "comes": [(TOLD, (0, 2, 2, 1)), (TOLD, (1,))],
    "lot": [(TOLD,), (TOLD + ((0, 2, 2, 1),),)],
    "alike": [((0, 1), (0, 1, 1), (0, 1, 1)), ((0,), (1,), (2,)), ((0,), (0,), (1,)), ((), (0,), (1,))],
    "counts": [(TOLD, (0, 2, 2, 1)), (TOLD, (1,))],
    "over": [(TOLD, ((0, 1),), (0, 2, 2, 1)), (TOLD, ((0, 2, 1),), (0, 2, 2, 1)), (TOLD, (), (1,))],
}


def random_question(generator, word):
    def text():
        return tuple(generator.randrange(2) for _ in range(generator.randint(0, 3)))

    def lot():
        return tuple(random_lot(generator, 3, 3, 2))

    if word == "strike":
        return (tuple((generator.randrange(2), generator.choice((1, -1))) for _ in range(generator.randint(0, 8))),)
    if word in ("fold", "lot"):
        return (lot(),)
    if word in ("comes", "counts"):
        return lot(), text()
    return (text(), text(), text()) if word == "alike" else (lot(), lot(), text())


def parts_changed(value):
    """The value with one part at any depth put for another one."""
    if isinstance(value, bool) or not isinstance(value, (int, str, tuple)):
        return []
    if not isinstance(value, tuple):
        return [value + 1, True] if isinstance(value, int) else [value + "x", 0]
    found = [list(value), value[:-1], value + (0,)]
    for at, part in enumerate(value):
        found += [value[:at] + (other,) + value[at + 1:] for other in parts_changed(part)]
    return found


class CheckerTest(Case):

    def test_made_sheets_hold(self):
        for word, questions in QUESTIONS.items():
            for question in questions:
                sheet = make_sheet(word, question)
                self.assertEqual(sheet, (word, question, PAIRS[word][0](*question)))
                self.assertEqual(make_sheet(word, as_lists(question)), sheet)
                self.assertFalse(holds_list(make_sheet(word, as_lists(question))))
                self.assertIs(sheet_holds(sheet), True)

    def test_made_sheets_of_many_questions(self):
        generator = random.Random(58)
        for word in PAIRS:
            for _ in range(60):
                question = random_question(generator, word)
                self.assertIs(sheet_holds(make_sheet(word, question)), True)

    def test_sheets_hold_as_their_functions_tell(self):
        generator = random.Random(581)
        held = 0
        for word in PAIRS:
            papers = [make_sheet(word, random_question(generator, word))[2] for _ in range(10)]
            for _ in range(10):
                question = random_question(generator, word)
                for paper in papers:
                    holds = PAIRS[word][1](*question, paper)
                    self.assertIs(sheet_holds((word, question, paper)), holds)
                    held += holds
        self.assertGreater(held, 50)

    def test_sheets_changed_at_one_place(self):
        for word, questions in QUESTIONS.items():
            for question in questions:
                sheet = make_sheet(word, question)
                for changed in parts_changed(sheet):
                    holds = False
                    if isinstance(changed, tuple) and len(changed) == 3 and changed[0] == word and not holds_list(changed):
                        holds = self.holds_by_function(word, changed)
                    self.assertIs(sheet_holds(changed), holds, changed)

    def holds_by_function(self, word, sheet):
        if not isinstance(sheet[1], tuple) or len(sheet[1]) != len(QUESTIONS[word][0]):
            return False
        try:
            return PAIRS[word][1](*sheet[1], sheet[2])
        except (InvalidWord, InvalidText, InvalidTexts, InvalidBases):
            return False

    def test_lists_and_other_values(self):
        sheet = make_sheet("comes", (TOLD, (0, 2, 2, 1)))
        word, question, paper = sheet
        for wrong in (as_lists(sheet), list(sheet), (word, list(question), paper), (word, as_lists(question), paper),
                      (word, question, as_lists(paper)), (word, ([TOLD[0], TOLD[1]], question[1]), paper),
                      (word, (TOLD, [0, 2, 2, 1]), paper), (word, question, (paper[0], list(paper[1]))),
                      ([word], question, paper), (None, question, paper), ("come", question, paper),
                      (True, question, paper), (word, question[:1], paper), (word, question + ((),), paper),
                      (word, (TOLD, (100,)), paper), (word, ((), (0,)), paper), (word, None, paper), sheet[:2],
                      sheet + (0,), (word, question, None), (word, TOLD[0], paper), (("comes",), question, paper),
                      Live(), Desk(), Label([(0,)], (0,)), (word, Live(), paper), (word, (TOLD, Live()), paper),
                      ("strike", "a", ()), ("over", (TOLD, None, ()), paper)) + STRANGE:
            self.assertIs(sheet_holds(wrong), False, wrong)
        self.assertIs(sheet_holds(("comes", (((0,),), (0,)), ("comes", (("told", (0,)),)))), True)
        self.assertIs(sheet_holds(("comes", (((0,),), (1,)), ("never", Web(2, [(0, 0, 1)], 0, 1)))), True)
        self.assertIs(sheet_holds(("comes", (((0,),), (0,)), ("never", Web(2, [(0, 0, 1)], 0, 1)))), False)

    def test_wrong_sheets(self):
        sheets = [make_sheet(word, question) for word, questions in QUESTIONS.items() for question in questions]
        self.assertEqual(wrong_sheets(sheets), ())
        self.assertEqual(wrong_sheets(tuple(sheets)), ())
        self.assertEqual(wrong_sheets([]), ())
        self.assertEqual(wrong_sheets([None, sheets[0], list(sheets[0]), sheets[1], ("lot", (TOLD,), ()), 3]), (0, 2, 4, 5))
        for wrong in (None, 1, "ab", True, "", Live()):
            self.refuses(Refused, "sheets", wrong_sheets, wrong)

    def test_wrong_inputs(self):
        for wrong in (None, 1, True, "", "Strike", "fewest", ("strike",), ["strike"], Live()):
            self.refuses(Refused, "word", make_sheet, wrong, None)
        for word, questions in QUESTIONS.items():
            question = questions[0]
            for wrong in (None, 1, "abc"[:len(question)], True, question[1:], question + (0,), [], list(question) * 2):
                if isinstance(wrong, (list, tuple)) and len(wrong) == len(question):
                    continue
                self.refuses(Refused, "question", make_sheet, word, wrong)
        self.refuses(InvalidWord, -1, make_sheet, "strike", (((0, 2),),))
        self.refuses(InvalidTexts, 1, make_sheet, "fold", [[(0,), [0]]])
        self.refuses(InvalidTexts, -1, make_sheet, "comes", ((), None))
        self.refuses(InvalidText, -1, make_sheet, "comes", (TOLD, None))
        self.refuses(InvalidTexts, 0, make_sheet, "lot", ((None,),))
        self.refuses(InvalidText, 1, make_sheet, "alike", ((), (True,), None))
        self.refuses(InvalidText, -1, make_sheet, "counts", (TOLD, (-1,)))
        self.refuses(InvalidTexts, 1, make_sheet, "over", ((TOLD[0], TOLD[0]), None, None))
        self.refuses(InvalidBases, 1, make_sheet, "over", (TOLD, (TOLD[0], TOLD[0]), None))
        self.refuses(InvalidText, -1, make_sheet, "over", (TOLD, (), None))

    def test_what_is_handed_in_stays(self):
        for word, questions in QUESTIONS.items():
            for question in questions:
                lists = as_lists(question)
                before = as_lists(question)
                made = make_sheet(word, lists)
                self.assertEqual(lists, before)
                lists.clear()
                self.assertEqual(made, make_sheet(word, question))

    def test_all_small_strikes(self):
        pairs = list(product(range(2), (1, -1)))
        for many in range(4):
            for word in product(pairs, repeat=many):
                self.assertIs(sheet_holds(("strike", (word,), strike_pairs(word))), True)
