"""Promises [1] to [3] for all that is built: names, arguments, sequences, and what calls leave as it was."""

import copy
import importlib
import inspect
import unittest

from cancelsback.tables import ShownTable
from tests.support import as_lists, as_tuples, holds_list

PLAN = (("version", 0), ("version", 1), ("merge", 0, 1, 1))
TOLD = ((0, 1), (0, 2, 1))
BAGS = ((1, 1, 1), (3, 0, 0), (0, 3, 0))
TABLE = ShownTable(2, 2, [(0, 0, (1, 2)), (1, 1, (2, 3))])
WORD = ((0, 1), (1, 1), (1, -1))

# For each function its parameters as the document calls them, and arguments with which it can be called. Where
# the last parameter is called `value` it is a paper: it stays as it is told, lists stand for no tuples there.
CALLS = {
    "words": {
        "strike_out": {"word": WORD}, "undo_word": {"word": WORD}, "join_words": {"one": WORD, "other": WORD},
        "strike_pairs": {"word": WORD}, "strikes_hold": {"word": WORD, "value": ((1, 2),)},
    },
    "texts": {"text_word": {"text": (1, 2)}, "word_text": {"word": WORD}},
    "amounts": {
        "bag_merge": {"base": (1, 0), "mine": (2, 1), "yours": (0, 3)}, "text_bag": {"text": (0, 2), "letters": 3},
        "bags_form": {"bags": ((2, 0), (0, 5), (4, 1))}, "bags_bring": {"bags": BAGS, "bag": (0, 0, 3)},
        "bag_history": {"bags": ((2, 0), (0, 5), (4, 1)), "bag": (0, 35)},
        "sums_reach": {"bags": BAGS, "bag": (0, 0, 3)}, "lost_bags": {"bags": BAGS, "most": 3},
        "least_debt": {"bags": BAGS, "bag": (0, 0, 3)},
    },
    "histories": {
        "need_plan": {"many": 2, "value": PLAN}, "plan_rows": {"many": 2, "plan": PLAN},
        "plan_counts": {"many": 2, "plan": PLAN}, "plan_texts": {"texts": ((1,), (1, 1)), "plan": PLAN},
        "plans_paper": {"many": 2, "plan": PLAN, "other": PLAN[:2]}, "rounds_paper": {"texts": TOLD},
        "rounds_hold": {"texts": TOLD, "value": ("clash", (0, 1, 0))},
        "margin_pairs": {"texts": ((1, 2), ()), "row": (1, 0, 1)}, "elder_fault": {"many": 2, "plan": PLAN},
        "elder_plan": {"counts": (2, 0, 3)},
    },
    "merges": {
        "merge_texts": {"base": (1, 2), "mine": (3, 2), "yours": (1, 4)},
        "merge_cuts": {"base": (1, 2), "mine": (3, 2), "yours": (1, 4)},
        "clash_lines": {"base": (1, 2), "mine": (1, 3), "yours": (1, 4)},
        "merge_word": {"base": (1, 2), "mine": (1, 3), "yours": (1, 4)},
        "missing_base": {"mine": (3, 2), "yours": (1, 4), "came": (3, 4)},
        "missing_mine": {"base": (1, 2), "yours": (1, 4), "came": (3, 4)},
        "missing_yours": {"base": (1, 2), "mine": (3, 2), "came": (3, 4)},
        "front_pick": {"text": (1, 4), "old": (1,), "new": (2, 3)},
        "back_pick": {"text": (1, 4), "old": (4,), "new": (2, 3)},
        "pick_row": {"text": (1, 4), "deeds": (("front", (1,), ()), ("back", (4,), (6,)))},
        "row_change": {"changes": (((1,), (2, 3)), ((2, 3, 4), (5,)))},
        "pair_count": {"base": (1, 2), "came": (2,)}, "nth_pair": {"base": (1, 2), "came": (2,), "number": 3},
        "pair_place": {"base": (1, 2), "came": (2,), "mine": (1, 2), "yours": (2,)},
        "history_texts": {"history": (("told", (1,)), ("told", ()), ("merge", 1, 0, 0))},
    },
    "releases": {
        "over_paper": {"versions": TOLD, "bases": ((0, 1),), "text": (0, 2, 2, 1)},
        "over_holds": {"versions": TOLD, "bases": ((0, 1),), "text": (0, 1), "value": ("row", ((0, 1),))},
        "fewest_paper": {"versions": TOLD, "bases": ((0, 1),), "text": (0, 2, 2, 1)},
        "fewest_holds": {"versions": TOLD, "bases": (), "text": (0, 1), "value": (((0, 1),), ())},
        "ring_paper": {"versions": TOLD, "bases": ((0, 1),)},
        "ring_holds": {"versions": TOLD, "bases": (), "value": ("finite", 2)},
        "lost_text": {"versions": TOLD, "bases": ((0, 1),), "fewer": ()},
    },
    "tables": {
        "table_blocks": {"table": TABLE}, "block_forms": {"table": TABLE}, "known_cells": {"table": TABLE},
        "table_paper": {"table": TABLE}, "table_count": {"table": TABLE},
        "table_holds": {"table": TABLE, "value": ("goes", (((1, 2), (1, 2)), ((2, 3), (2, 3))))},
        "cell_texts": {"table": TABLE, "row": 1, "column": 0},
    },
}
REFUSED_PAIR = "pair_place"


def function_of(module, name):
    return getattr(importlib.import_module("cancelsback." + module), name)


def all_calls():
    for module, calls in CALLS.items():
        for name, arguments in calls.items():
            if name == REFUSED_PAIR:
                mine, yours = function_of("merges", "nth_pair")((1, 2), (2,), 3)
                arguments = dict(arguments, mine=mine, yours=yours)
            yield module, name, arguments


def is_paper(name):
    return name.endswith(("_hold", "_holds"))


class InterfaceTest(unittest.TestCase):

    def test_each_is_defined_in_its_file(self):
        for module, name, arguments in all_calls():
            with self.subTest(name):
                function = function_of(module, name)
                self.assertEqual(function.__module__, "cancelsback." + module)
                self.assertEqual(list(inspect.signature(function).parameters), list(arguments))

    def test_by_position_and_by_names(self):
        for module, name, arguments in all_calls():
            with self.subTest(name):
                function = function_of(module, name)
                expected = function(*arguments.values())
                self.assertEqual(function(**arguments), expected)
                self.assertEqual(function(*arguments.values()), expected)
                if is_paper(name):
                    self.assertIs(expected, True)

    def test_lists_stand_for_tuples(self):
        for module, name, arguments in all_calls():
            with self.subTest(name):
                function = function_of(module, name)
                expected = function(*arguments.values())
                lists = {word: as_lists(value) for word, value in arguments.items()}
                if is_paper(name):
                    self.assertIs(function(**lists), False)
                    lists["value"] = arguments["value"]
                before = copy.deepcopy(lists)
                self.assertEqual(function(**lists), expected)
                self.assertEqual(lists, before)

    def test_tuples_are_returned(self):
        for module, name, arguments in all_calls():
            with self.subTest(name):
                result = function_of(module, name)(**{word: value if is_paper(name) else as_lists(value)
                                                      for word, value in arguments.items()})
                self.assertFalse(holds_list(result))
                self.assertEqual(as_tuples(result), result)

    def test_the_table_class(self):
        self.assertEqual(ShownTable.__module__, "cancelsback.tables")
        self.assertEqual(list(inspect.signature(ShownTable).parameters), ["rows", "columns", "cells"])
        self.assertIn("__eq__", vars(ShownTable))
        self.assertEqual(ShownTable(columns=2, cells=TABLE.cells, rows=2), TABLE)
        self.assertFalse(holds_list(TABLE.cells))

    def test_what_is_told_may_be_handed_on(self):
        for module, paper, holds in (("words", "strike_pairs", "strikes_hold"), ("histories", "rounds_paper", "rounds_hold"),
                                     ("releases", "over_paper", "over_holds"), ("releases", "fewest_paper", "fewest_holds"),
                                     ("releases", "ring_paper", "ring_holds"), ("tables", "table_paper", "table_holds")):
            arguments = list(CALLS[module][paper].values())
            told = function_of(module, paper)(*arguments)
            self.assertIs(function_of(module, holds)(*arguments, told), True)
            self.assertIs(function_of(module, holds)(*arguments, as_lists(told)), False)
