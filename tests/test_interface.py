"""Promises [1] to [3] for all that is built: names, arguments, sequences, and what calls leave as it was."""

import copy
import importlib
import inspect
import unittest

from cancelsback import errors
from cancelsback.branches import branch_paper
from cancelsback.desk import Desk
from cancelsback.distances import front_links
from cancelsback.kept import barring_points
from cancelsback.labels import Label
from cancelsback.levels import nth_order
from cancelsback.live import Live
from cancelsback.reaches import reach_paper
from cancelsback.tables import ShownTable
from cancelsback.webs import Web, told_web
from tests.support import as_lists, as_tuples, holds_list

PLAN = (("version", 0), ("version", 1), ("merge", 0, 1, 1))
TOLD = ((0, 1), (0, 2, 1))
BAGS = ((1, 1, 1), (3, 0, 0), (0, 3, 0))
TABLE = ShownTable(2, 2, [(0, 0, (1, 2)), (1, 1, (2, 3))])
WORD = ((0, 1), (1, 1), (1, -1))
WEB = Web(3, [(0, 0, 1), (1, 2, 1), (1, 1, 2)], 0, 2)
MACHINE = {"places": 3, "ties": ((0, 0, 1), (0, 0, 2), (1, 1, 1)), "start": 0, "ends": (2, 1)}
HISTORY = (("told", (0, 1)), ("told", (0, 2, 1)), ("merge", 0, 1, 1))
CHAIN = ((1, 2), (1,), (1, 1), (1,), (1, 4))
LABEL = Label([(1, 0), (0, 1)], [3, 5])

# For each function its parameters as the document calls them, and arguments with which it can be called. Where
# the last parameter is called `value` it is a paper: it stays as it is told, lists stand for no tuples there.
CALLS = {
    "words": {
        "strike_out": {"word": WORD}, "undo_word": {"word": WORD}, "join_words": {"one": WORD, "other": WORD},
        "strike_pairs": {"word": WORD}, "strikes_hold": {"word": WORD, "value": ((1, 2),)},
    },
    "texts": {"text_word": {"text": (1, 2)}, "word_text": {"word": WORD}},
    "amounts": {
        "bag_merge": {"base": (1, 0), "mine": (2, 1), "yours": (0, 3)}, "text_bag": {"text": (0, 2), "letters": 3},
        "bags_form": {"bags": ((2, 0), (0, 5), (4, 1))}, "bags_bring": {"bags": BAGS, "bag": (0, 0, 3)},
        "bag_history": {"bags": ((2, 0), (0, 5), (4, 1)), "bag": (0, 35)},
        "sums_reach": {"bags": BAGS, "bag": (0, 0, 3)}, "lost_bags": {"bags": BAGS, "most": 3},
        "least_debt": {"bags": BAGS, "bag": (0, 0, 3)},
    },
    "histories": {
        "need_plan": {"many": 2, "value": PLAN}, "plan_rows": {"many": 2, "plan": PLAN},
        "plan_counts": {"many": 2, "plan": PLAN}, "plan_texts": {"texts": ((1,), (1, 1)), "plan": PLAN},
        "plans_paper": {"many": 2, "plan": PLAN, "other": PLAN[:2]}, "rounds_paper": {"texts": TOLD},
        "rounds_hold": {"texts": TOLD, "value": ("clash", (0, 1, 0))},
        "margin_pairs": {"texts": ((1, 2), ()), "row": (1, 0, 1)}, "elder_fault": {"many": 2, "plan": PLAN},
        "elder_plan": {"counts": (2, 0, 3)},
    },
    "merges": {
        "merge_texts": {"base": (1, 2), "mine": (3, 2), "yours": (1, 4)},
        "merge_cuts": {"base": (1, 2), "mine": (3, 2), "yours": (1, 4)},
        "clash_lines": {"base": (1, 2), "mine": (1, 3), "yours": (1, 4)},
        "merge_word": {"base": (1, 2), "mine": (1, 3), "yours": (1, 4)},
        "missing_base": {"mine": (3, 2), "yours": (1, 4), "came": (3, 4)},
        "missing_mine": {"base": (1, 2), "yours": (1, 4), "came": (3, 4)},
        "missing_yours": {"base": (1, 2), "mine": (3, 2), "came": (3, 4)},
        "front_pick": {"text": (1, 4), "old": (1,), "new": (2, 3)},
        "back_pick": {"text": (1, 4), "old": (4,), "new": (2, 3)},
        "pick_row": {"text": (1, 4), "deeds": (("front", (1,), ()), ("back", (4,), (6,)))},
        "row_change": {"changes": (((1,), (2, 3)), ((2, 3, 4), (5,)))},
        "pair_count": {"base": (1, 2), "came": (2,)}, "nth_pair": {"base": (1, 2), "came": (2,), "number": 3},
        "pair_place": {"base": (1, 2), "came": (2,), "mine": (1, 2), "yours": (2,)},
        "history_texts": {"history": (("told", (1,)), ("told", ()), ("merge", 1, 0, 0))},
    },
    "releases": {
        "over_paper": {"versions": TOLD, "bases": ((0, 1),), "text": (0, 2, 2, 1)},
        "over_holds": {"versions": TOLD, "bases": ((0, 1),), "text": (0, 1), "value": ("row", ((0, 1),))},
        "fewest_paper": {"versions": TOLD, "bases": ((0, 1),), "text": (0, 2, 2, 1)},
        "fewest_holds": {"versions": TOLD, "bases": (), "text": (0, 1), "value": (((0, 1),), ())},
        "ring_paper": {"versions": TOLD, "bases": ((0, 1),)},
        "ring_holds": {"versions": TOLD, "bases": (), "value": ("finite", 2)},
        "lost_text": {"versions": TOLD, "bases": ((0, 1),), "fewer": ()},
    },
    "tables": {
        "table_blocks": {"table": TABLE}, "block_forms": {"table": TABLE}, "known_cells": {"table": TABLE},
        "table_paper": {"table": TABLE}, "table_count": {"table": TABLE},
        "table_holds": {"table": TABLE, "value": ("goes", (((1, 2), (1, 2)), ((2, 3), (2, 3))))},
        "cell_texts": {"table": TABLE, "row": 1, "column": 0},
    },
    "webs": {
        "word_end": {"web": WEB, "place": 0, "word": ((0, 1), (2, -1))}, "reads_text": {"web": WEB, "text": (0, 2, 1)},
        "plain_web": {"web": WEB}, "folded_web": MACHINE, "told_web": {"texts": TOLD}, "enough_texts": MACHINE,
        "fold_steps": {"texts": TOLD}, "folds_hold": {"texts": ((0,), (1,)), "value": (((0,), (1,)),)},
        "unlike_text": {"one": WEB, "other": told_web(TOLD[:1])},
    },
    "branches": {
        "branch_text": {"texts": TOLD, "start": 0, "steps": (("front", 0, 1), ("back", 0, 0))},
        "shortest_branch": {"texts": TOLD, "text": (0, 2, 2, 1)},
        "branch_paper": {"texts": TOLD, "start": 0, "text": (0, 2, 2, 1)},
        "branch_holds": {"texts": TOLD, "start": 0, "text": (0, 2, 2, 1), "value": branch_paper(TOLD, 0, (0, 2, 2, 1))},
    },
    "chains": {
        "chain_text": {"chain": CHAIN}, "clean_bases": {"chain": CHAIN}, "merged_chain": {"chain": CHAIN, "place": 1},
        "least_chain": {"chain": CHAIN},
    },
    "coming": {
        "can_come": {"texts": TOLD, "text": (0, 2, 2, 1)}, "coming_paper": {"texts": TOLD, "text": (0, 2, 2, 1)},
        "coming_holds": {"texts": TOLD, "text": (0, 2, 2, 1), "value": ("comes", HISTORY)},
        "row_text": {"texts": TOLD, "row": (1, 0, 1)}, "more_paper": {"one": TOLD, "other": TOLD[:1]},
        "least_apart": {"one": TOLD, "other": TOLD[:1]}, "closed_paper": {"texts": TOLD},
        "coming_count": {"texts": TOLD, "length": 5}, "coming_rest": {"texts": TOLD, "length": 10 ** 18, "modulus": 7},
        "endless_paper": {"texts": TOLD}, "endless_holds": {"texts": TOLD, "value": ("endless", (0,), (2,), (1,))},
        "nth_coming": {"texts": TOLD, "number": 7}, "coming_place": {"texts": TOLD, "text": (0, 2, 2, 1)},
        "least_told": {"number": 7}, "versions_bringing": {"number": 7},
    },
    "fewest": {
        "fewest_count": {"web": WEB}, "first_ways": {"web": WEB}, "last_ways": {"web": WEB}, "least_lot": {"web": WEB},
        "ear_texts": {"web": WEB, "texts": TOLD[:1]}, "needless_texts": {"texts": TOLD + ((0, 2, 2, 1),)},
        "lot_paper": {"texts": TOLD + ((0, 2, 2, 1),)},
        "lot_holds": {"texts": TOLD + ((0, 2, 2, 1),), "value": ("twice", (1, 0, 1), (2,))},
        "version_row": {"texts": TOLD, "text": (0, 2, 2, 1)}, "stand_ins": {"texts": TOLD, "text": (0, 2, 2, 1)},
    },
    "kept": {
        "counts_paper": {"texts": ((0, 0), (1, 1)), "text": (0, 1)},
        "counts_hold": {"texts": TOLD, "text": (0, 2, 2, 1), "value": ("counts", (2,))},
        "sum_rest": {"texts": TOLD, "weights": (1, 2, 3)}, "barring_points": {"texts": TOLD, "text": (1, 0)},
        "bars_text": {"texts": TOLD, "text": (1, 0), "value": barring_points(TOLD, (1, 0))},
    },
    "labels": {
        "settled_paper": {"label": LABEL}, "kept_label": {"label": LABEL},
        "settled_holds": {"label": LABEL, "value": ("group", (3, 5), ((3, 5), (5, 3)))},
    },
    "sides": {
        "both_sides": {"base": (0,), "mine": (0, 1), "yours": (2, 0)},
        "block_form": {"one": (0, 1, 2), "other": (0, 1, 1, 2)},
        "alike_paper": {"base": (0, 1), "mine": (0, 1, 1), "yours": (0, 1, 1)},
        "alike_holds": {"base": (), "mine": (1,), "yours": (1, 1), "value": ("block", (), (1,), (), (0, 1, 2))},
        "exchanged_parts": {"one": (0, 1, 2), "other": (2, 1, 0)}, "sides_paper": {"one": (0, 1, 2), "other": (2, 1, 0)},
        "sides_holds": {"one": (0, 1), "other": (1, 0), "value": ("merge", (), (0,), (1,))},
        "hands_end": {"base": (1,), "versions": ((1, 2), (3, 1)), "order": (0, 1)},
        "orders_paper": {"base": (1,), "versions": ((1, 2), (1, 3))},
        "orders_holds": {"base": (1,), "versions": ((1, 2), (1, 1)), "value": ("apart", (0, 1), (1, 0))},
        "both_count": {"base": (0, 1), "mine": (0, 2, 1), "letters": 3, "length": 4},
        "nth_both": {"base": (0, 1), "mine": (0, 2, 1), "letters": 3, "length": 4, "index": 5},
        "alike_yours": {"base": (1, 1), "mine": (1,), "length": 5},
    },
    "checker": {
        "sheet_holds": {"value": ("lot", (TOLD,), ("fewest", told_web(TOLD)))},
        "make_sheet": {"word": "comes", "question": (TOLD, (0, 2, 2, 1))}, "wrong_sheets": {"values": (None, (1, 2), 3)},
    },
    "distances": {
        "merge_reach": {"base": (1, 2, 3), "mine": (4, 2, 3), "yours": (1, 2, 5)},
        "chain_reach": {"chain": ((4, 2, 3), (1, 2, 3), (1, 2, 5))}, "window_texts": {"versions": TOLD, "distance": 1},
        "front_links": {"texts": TOLD}, "links_hold": {"texts": TOLD, "value": front_links(TOLD)},
    },
    "levels": {
        "order_count": {"chain": CHAIN}, "nth_order": {"chain": CHAIN, "number": 0},
        "order_place": {"chain": CHAIN, "order": nth_order(CHAIN, 0)}, "last_bases": {"chain": CHAIN},
        "least_rounds": {"chain": CHAIN}, "branch_begins": {"chain": CHAIN},
    },
    "logs": {
        "needed_texts": {"texts": TOLD, "came": (0, 2, 2, 1)}, "bringing_lots": {"texts": TOLD, "came": (0, 2, 2, 1)},
        "lots_lengths": {"many": 3, "lots": ((0, 1), (1, 2))}, "joined_webs": {"web": WEB}, "fewest_hidden": {"texts": TOLD},
        "least_format": {"good": TOLD, "bad": ((0,), (1, 0))},
    },
    "reaches": {
        "text_reach": {"texts": TOLD, "text": (0, 2, 2, 1)}, "reach_paper": {"texts": TOLD, "text": (0, 2, 2, 1)},
        "reach_holds": {"texts": TOLD, "text": (0, 2, 2, 1), "value": reach_paper(TOLD, (0, 2, 2, 1))},
    },
    "apart": {
        "fewest_apart": {"texts": TOLD}, "apart_lot": {"texts": TOLD, "distance": 1},
        "rising_texts": {"distance": 1, "many": 5}, "reach_steps": {"texts": TOLD}, "ring_apart": {"texts": TOLD},
    },
}
# Values of every kind, few of which are what any function is called with.
ANY_VALUES = (None, True, False, -1, 0, 5, "", "told", "ab", (), [], ((),), [[]], (None,), [True], (0, 0), ((0, 1), (0, 1)),
              (("told", (0,)),), [("front", (0,), [])], (("merge", 0, 0, 0),), ("comes", ()), ((0, 1, 0),), (-1, 1),
              ((0, 1), "x"), (WEB,), WEB, LABEL, TABLE, Live(), Desk(), ("never", WEB), ((((((((((((),),),),),),),),),),),))
METHODS = {
    Web: {"step_ahead": ["place", "letter"], "step_back": ["place", "letter"], "__eq__": ["other"]},
    Label: {"mark_of": ["text"], "__eq__": ["other"]},
    Live: {"tell_version": ["text"], "merge_made": ["base", "mine", "yours"], "release_version": ["number"],
           "withdraw_base": ["number"], "still_comes": ["text"], "lost_by": ["number"], "undo_deed": [], "redo_deed": []},
    ShownTable: {"__eq__": ["other"]}, Desk: {"say": ["command"]},
}
REFUSED_PAIR = "pair_place"


def function_of(module, name):
    return getattr(importlib.import_module("cancelsback." + module), name)


def all_calls():
    for module, calls in CALLS.items():
        for name, arguments in calls.items():
            if name == REFUSED_PAIR:
                mine, yours = function_of("merges", "nth_pair")((1, 2), (2,), 3)
                arguments = dict(arguments, mine=mine, yours=yours)
            yield module, name, arguments


def is_paper(name):
    return name.endswith(("_hold", "_holds")) or name == "bars_text"


class InterfaceTest(unittest.TestCase):

    def test_each_is_defined_in_its_file(self):
        for module, name, arguments in all_calls():
            with self.subTest(name):
                function = function_of(module, name)
                self.assertEqual(function.__module__, "cancelsback." + module)
                self.assertEqual(list(inspect.signature(function).parameters), list(arguments))

    def test_by_position_and_by_names(self):
        for module, name, arguments in all_calls():
            with self.subTest(name):
                function = function_of(module, name)
                expected = function(*arguments.values())
                self.assertEqual(function(**arguments), expected)
                self.assertEqual(function(*arguments.values()), expected)
                if is_paper(name):
                    self.assertIs(expected, True)

    def test_lists_stand_for_tuples(self):
        for module, name, arguments in all_calls():
            with self.subTest(name):
                function = function_of(module, name)
                expected = function(*arguments.values())
                lists = {word: as_lists(value) for word, value in arguments.items()}
                if is_paper(name):
                    self.assertIs(function(**lists), False)
                    lists["value"] = arguments["value"]
                before = copy.deepcopy(lists)
                self.assertEqual(function(**lists), expected)
                self.assertEqual(lists, before)

    def test_tuples_are_returned(self):
        for module, name, arguments in all_calls():
            with self.subTest(name):
                result = function_of(module, name)(**{word: value if is_paper(name) else as_lists(value)
                                                      for word, value in arguments.items()})
                self.assertFalse(holds_list(result))
                self.assertEqual(as_tuples(result), result)

    def test_any_values_raise_errors_of_the_package_only(self):
        told = 0
        for module, name, arguments in all_calls():
            for parameter in arguments:
                if parameter == "label":
                    continue
                for value in ANY_VALUES:
                    values = dict(arguments, **{parameter: value})
                    before = repr(value)
                    with self.subTest(name=name, parameter=parameter, value=before):
                        try:
                            self.assertFalse(holds_list(function_of(module, name)(**values)))
                        except errors.MergeError as error:
                            self.assertEqual(type(error).__bases__, (errors.MergeError,))
                            self.assertEqual(len(vars(error)), 1)
                            told += 1
                        self.assertEqual(repr(value), before)
        self.assertGreater(told, 1000)

    def test_each_method_stands_in_its_class(self):
        for kind, methods in METHODS.items():
            for name, parameters in methods.items():
                with self.subTest(kind.__name__ + "." + name):
                    self.assertIn(name, vars(kind))
                    self.assertEqual(list(inspect.signature(vars(kind)[name]).parameters), ["self"] + parameters)

    def test_classes_are_made_by_names(self):
        for kind, module, parameters in ((Web, "webs", ["places", "ties", "start", "end"]), (Live, "live", []), (Desk, "desk", []),
                                         (Label, "labels", ["moves", "marks"])):
            self.assertEqual(kind.__module__, "cancelsback." + module)
            self.assertEqual(list(inspect.signature(kind).parameters), parameters)
        self.assertEqual(Web(end=2, ties=[list(tie) for tie in WEB.ties], start=0, places=3), WEB)
        self.assertEqual(Label(marks=(3, 5), moves=[[1, 0], [0, 1]]), LABEL)
        self.assertFalse(holds_list((WEB.ties, LABEL.moves, LABEL.marks)))
        self.assertFalse(WEB == LABEL)

    def test_calls_in_between_change_nothing(self):
        first = [function_of(module, name)(*arguments.values()) for module, name, arguments in all_calls()]
        again = [function_of(module, name)(*arguments.values()) for module, name, arguments in list(all_calls())[::-1]]
        self.assertEqual(first, again[::-1])

    def test_the_table_class(self):
        self.assertEqual(ShownTable.__module__, "cancelsback.tables")
        self.assertEqual(list(inspect.signature(ShownTable).parameters), ["rows", "columns", "cells"])
        self.assertIn("__eq__", vars(ShownTable))
        self.assertEqual(ShownTable(columns=2, cells=TABLE.cells, rows=2), TABLE)
        self.assertFalse(holds_list(TABLE.cells))

    def test_what_is_told_may_be_handed_on(self):
        for module, paper, holds in (("words", "strike_pairs", "strikes_hold"), ("histories", "rounds_paper", "rounds_hold"),
                                     ("releases", "over_paper", "over_holds"), ("releases", "fewest_paper", "fewest_holds"),
                                     ("releases", "ring_paper", "ring_holds"), ("tables", "table_paper", "table_holds"),
                                     ("webs", "fold_steps", "folds_hold"), ("branches", "branch_paper", "branch_holds"),
                                     ("coming", "coming_paper", "coming_holds"), ("kept", "barring_points", "bars_text"),
                                     ("coming", "endless_paper", "endless_holds"), ("fewest", "lot_paper", "lot_holds"),
                                     ("kept", "counts_paper", "counts_hold"), ("labels", "settled_paper", "settled_holds"),
                                     ("sides", "alike_paper", "alike_holds"), ("sides", "sides_paper", "sides_holds"),
                                     ("sides", "orders_paper", "orders_holds"), ("distances", "front_links", "links_hold"),
                                     ("reaches", "reach_paper", "reach_holds")):
            arguments = list(CALLS[module][paper].values())
            told = function_of(module, paper)(*arguments)
            self.assertIs(function_of(module, holds)(*arguments, told), True)
            self.assertIs(function_of(module, holds)(*arguments, as_lists(told)), False)
