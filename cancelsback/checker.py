"""Sheets: papers with the questions that they answer, made and checked by one call."""

from cancelsback.checks import is_sequence, is_tuple_of
from cancelsback.coming import coming_holds, coming_paper
from cancelsback.errors import MergeError, Refused
from cancelsback.fewest import lot_holds, lot_paper
from cancelsback.kept import counts_hold, counts_paper
from cancelsback.releases import over_holds, over_paper
from cancelsback.sides import alike_holds, alike_paper
from cancelsback.webs import fold_steps, folds_hold
from cancelsback.words import strike_pairs, strikes_hold

# For each word how many things its question has.
QUESTIONS = {"strike": 1, "fold": 1, "comes": 2, "lot": 1, "alike": 3, "counts": 2, "over": 3}


def told_paper(word, question):
    """What the first function of the word tells of the question."""
    if word == "strike":
        return strike_pairs(*question)
    if word == "fold":
        return fold_steps(*question)
    if word == "comes":
        return coming_paper(*question)
    if word == "lot":
        return lot_paper(*question)
    if word == "alike":
        return alike_paper(*question)
    if word == "counts":
        return counts_paper(*question)
    return over_paper(*question)


def paper_holds(word, question, value):
    """What the second function of the word tells of the question and the value."""
    if word == "strike":
        return strikes_hold(*question, value)
    if word == "fold":
        return folds_hold(*question, value)
    if word == "comes":
        return coming_holds(*question, value)
    if word == "lot":
        return lot_holds(*question, value)
    if word == "alike":
        return alike_holds(*question, value)
    if word == "counts":
        return counts_hold(*question, value)
    return over_holds(*question, value)


def holds_list(value):
    """Whether there is a list in any value, at any depth."""
    if isinstance(value, tuple):
        return any([holds_list(part) for part in value])
    return isinstance(value, list)


def without_lists(value):
    """The value with its lists turned to tuples, at any depth."""
    if is_sequence(value):
        return tuple([without_lists(part) for part in value])
    return value


def is_question_word(value):
    """Whether any value is the word of a question."""
    return isinstance(value, str) and value in QUESTIONS


def sheet_holds(value):
    """Whether any value is a sheet that holds."""
    if not is_tuple_of(value, 3) or holds_list(value) or not is_question_word(value[0]):
        return False
    word, question, paper = value
    if not is_tuple_of(question, QUESTIONS[word]):
        return False
    try:
        return paper_holds(word, question, paper)
    except MergeError:
        return False


def make_sheet(word, question):
    """The sheet with what the word's function tells of the question."""
    if not is_question_word(word):
        raise Refused("word")
    if not is_sequence(question) or len(question) != QUESTIONS[word]:
        raise Refused("question")
    question = without_lists(question)
    return word, question, told_paper(word, question)


def wrong_sheets(values):
    """The places of those values that are no sheets that hold, ascending."""
    if not is_sequence(values):
        raise Refused("sheets")
    return tuple([at for at, value in enumerate(values) if not sheet_holds(value)])
