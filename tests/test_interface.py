"""[0.1] and the interface: names, arguments and files; and rules of form that hold for every file."""

import ast
import importlib
import inspect
import unittest
from pathlib import Path

from starclocks.asks import ahead, depth, first_beside, past
from starclocks.copies import common, joined
from starclocks.cutlooks import cut_of_rows, cuts_many, greatest_cut, least_cut
from starclocks.cuts import cut_rows, is_cut, totals
from starclocks.errors import BadLogs, BadMark, BadMeeting
from starclocks.fewest import fewest
from starclocks.forget import common_cut, may_forget
from starclocks.grow import grown, moved
from starclocks.heads import head, mended, stuck
from starclocks.hidden import hidden_ahead, sure_hidden
from starclocks.histories import is_history
from starclocks.housetext import house_of, house_text
from starclocks.knows import known, missing
from starclocks.live import Live
from starclocks.logs import logs_of
from starclocks.logsjudge import fault, logs_right
from starclocks.logstext import logs_of_text, logs_text
from starclocks.lost import kept_logs, whole_again
from starclocks.marks import hand_marks, marks, names
from starclocks.merged import history_of
from starclocks.orders import nth_order, order_rank, orders_many
from starclocks.parts import house, is_parts, part_of
from starclocks.rebuilt import all_logs, kept_right, rebuilt
from starclocks.remarks import remarked
from starclocks.saved import fallen, line, line_after, saved_right, useless
from starclocks.slices import clipped, forgotten, sliced
from starclocks.strikes import struck
from starclocks.webs import some_parts, two_sides
from tests.helper import plain, refuses

PACKAGE = Path(__file__).resolve().parent.parent / "starclocks"

INTERFACE = {
    "webs": {"some_parts": "n roads", "two_sides": "n roads"},
    "parts": {"House": None, "house": "n roads parts", "is_parts": "n roads parts", "part_of": "house road"},
    "fewest": {"fewest": "n roads"},
    "histories": {"is_history": "house history"},
    "marks": {"marks": "house history", "names": "house history", "hand_marks": "house history"},
    "asks": {"ahead": "one two", "past": "house history index", "depth": "house history index",
             "first_beside": "house history"},
    "logs": {"logs_of": "house history"},
    "logsjudge": {"fault": "house logs", "logs_right": "house logs"},
    "merged": {"history_of": "house logs"},
    "cuts": {"totals": "house logs", "is_cut": "house logs cut", "cut_rows": "house logs cut"},
    "cutlooks": {"greatest_cut": "house logs bound", "cut_of_rows": "house logs rows", "least_cut": "house logs names",
                 "cuts_many": "house logs"},
    "orders": {"orders_many": "house logs low high", "nth_order": "house logs k", "order_rank": "house logs history"},
    "strikes": {"struck": "house logs name"},
    "slices": {"clipped": "mark base", "sliced": "house logs low high", "forgotten": "house logs cut"},
    "lost": {"kept_logs": "house logs lost", "whole_again": "house kept lost"},
    "hidden": {"sure_hidden": "house kept lost", "hidden_ahead": "house kept lost name of"},
    "rebuilt": {"rebuilt": "house kept lost", "all_logs": "house kept lost", "kept_right": "house kept lost"},
    "heads": {"head": "house logs", "mended": "house logs", "stuck": "house logs"},
    "remarks": {"remarked": "house mates"},
    "saved": {"saved_right": "house logs saved", "line": "house logs saved", "fallen": "house logs saved",
              "useless": "house logs saved", "line_after": "house logs saved rows"},
    "knows": {"known": "house logs", "missing": "house logs one two"},
    "forget": {"common_cut": "house logs", "may_forget": "house logs hand"},
    "copies": {"joined": "house one two", "common": "house one two"},
    "grow": {"grown": "house a b part", "moved": "mark parts_go many"},
    "live": {"Live": None},
    "housetext": {"house_text": "house", "house_of": "text"},
    "logstext": {"logs_text": "house logs", "logs_of_text": "house text"},
}

METHODS = {"__init__": "self house", "meet": "self road", "strike": "self name", "forget": "self cut",
           "grow": "self a b part", "lose": "self lost", "undo": "self", "redo": "self", "house": "self",
           "logs": "self", "base": "self", "last": "self", "whole": "self name"}


class Interface(unittest.TestCase):
    def test_defined_where_it_is_listed(self):
        for file, listed in INTERFACE.items():
            module = importlib.import_module("starclocks." + file)
            for name, names in listed.items():
                found = getattr(module, name)
                self.assertEqual(found.__module__, "starclocks." + file)
                if names is not None:
                    self.assertTrue(inspect.isfunction(found))
                    self.assertEqual(list(inspect.signature(found).parameters), names.split(), name)

    def test_methods_of_live_stand_in_the_class_itself(self):
        for name, names in METHODS.items():
            self.assertEqual(list(inspect.signature(vars(Live)[name]).parameters), names.split(), name)


class Unchanged(unittest.TestCase):
    ROADS = ((0, 1), (0, 2), (1, 3), (2, 3))

    def test_nothing_handed_in_is_changed(self):
        roads, parts = tuple(list(self.ROADS)), ((0, 1), (2, 3))
        made = house(4, roads, parts)
        for _ in range(2):
            some_parts(4, roads)
            two_sides(4, roads)
            fewest(4, roads)
            is_parts(4, roads, parts)
            part_of(made, 3)
        self.assertEqual((roads, parts), (self.ROADS, ((0, 1), (2, 3))))
        self.assertEqual((made.n, made.roads, made.parts), (4, self.ROADS, ((0, 1), (2, 3))))
        self.assertEqual(made, house(4, self.ROADS, parts))

    def test_a_house_stays_as_it_is(self):
        made = house(4, self.ROADS, ((0, 1), (2, 3)))
        before = dict(vars(made))
        history = (0, 3, 1, 2, 0)
        logs = logs_of(made, history)
        for call in (marks, names, hand_marks, first_beside, is_history, logs_of):
            self.assertEqual(call(made, history), call(made, history))
        for call in (past, depth):
            self.assertEqual(call(made, history, 4), call(made, history, 4))
        ahead(*marks(made, history)[:2])
        self.assertIsNone(fault(made, logs))
        self.assertIs(logs_right(made, logs), True)
        self.assertEqual(vars(made), before)
        self.assertEqual((history, logs), ((0, 3, 1, 2, 0), logs_of(made, (0, 3, 1, 2, 0))))

    def test_logs_stay_as_they_are(self):
        made = house(4, self.ROADS, ((0, 1), (2, 3)))
        before = dict(vars(made))
        logs = logs_of(made, (0, 3, 1, 2, 0))
        kept = ((), logs[1], (), logs[3])
        for _ in range(2):
            for call in (history_of, totals, cuts_many):
                self.assertEqual(call(made, logs), call(made, logs))
            for call, argument in ((is_cut, (1, 1)), (cut_rows, (1, 1)), (greatest_cut, (2, 1)), (nth_order, 0),
                                   (cut_of_rows, (1, 1, 1, 1)), (least_cut, ((0, 2), (1, 1))), (struck, (0, 2)),
                                   (order_rank, (0, 3, 1, 2, 0)), (forgotten, (1, 1)), (kept_logs, (0, 2))):
                self.assertEqual(call(made, logs, argument), call(made, logs, argument))
            for call in (orders_many, sliced):
                self.assertEqual(call(made, logs, (1, 1), (3, 2)), call(made, logs, (1, 1), (3, 2)))
            for call in (whole_again, sure_hidden, rebuilt, all_logs, kept_right):
                self.assertEqual(call(made, kept, (0, 2)), call(made, kept, (0, 2)))
            self.assertIs(hidden_ahead(made, kept, (0, 2), (0, 2), (0, 3)), True)
            for call in (head, mended, stuck, known, common_cut, logs_text):
                self.assertEqual(call(made, logs), call(made, logs))
            saved = ((0, 2), (0,), (0, 1), (0, 1, 2))
            for call in (saved_right, line, fallen, useless):
                self.assertEqual(call(made, logs, saved), call(made, logs, saved))
            self.assertEqual(line_after(made, logs, saved, (1, 0, 1, 1)), line_after(made, logs, saved, (1, 0, 1, 1)))
            self.assertEqual(missing(made, logs, 0, 3), missing(made, logs, 0, 3))
            self.assertEqual(may_forget(made, logs, 1), may_forget(made, logs, 1))
            self.assertEqual(joined(made, logs, ((),) * 4), common(made, logs, logs))
            self.assertEqual(remarked(made, ((1, 2), (0,), (0,), ())), remarked(made, ((1, 2), (0,), (0,), ())))
            self.assertEqual(grown(made, 0, 3, 2), grown(made, 0, 3, 2))
            self.assertEqual(house_of(house_text(made)), made)
            self.assertEqual(logs_of_text(made, logs_text(made, logs)), logs)
            self.leads_a_live_house(made)
            self.assertEqual(saved, ((0, 2), (0,), (0, 1), (0, 1, 2)))
        self.assertEqual(vars(made), before)
        self.assertEqual(logs, logs_of(made, (0, 3, 1, 2, 0)))
        self.assertEqual(kept, ((), logs[1], (), logs[3]))

    def leads_a_live_house(self, made):
        live = Live(made)
        live.meet(0)
        live.grow(0, 3, 2)
        live.meet(2)
        live.forget((1, 0, 0))
        live.strike(live.last())
        live.lose((0,))
        live.undo()

    def test_tuples_are_returned_and_the_same_again(self):
        for call in (some_parts, two_sides, fewest):
            got = call(4, self.ROADS)
            plain(self, got)
            self.assertIs(type(got), tuple)
            self.assertEqual(call(4, self.ROADS), got)


class Numbers(unittest.TestCase):
    def test_true_and_false_are_no_numbers(self):
        home = house(2, ((0, 1),), ((0,),))
        self.assertIs(is_parts(True, (), ()), False)
        self.assertIs(is_parts(2, ((False, True),), ((0,),)), False)
        self.assertIs(is_parts(2, ((0, 1),), ((False,),)), False)
        self.assertIs(is_history(home, (False,)), False)
        self.assertIs(logs_right(home, (((True, (1,)),), ((0, (1,)),))), False)
        self.assertIs(logs_right(home, (((1, (True,)),), ((0, (1,)),))), False)
        refuses(self, BadMark, 0, ahead, (False,), (1,))
        refuses(self, BadMark, 1, ahead, (0,), (True,))
        refuses(self, BadMark, 0, clipped, (False,), (1,))
        refuses(self, BadMark, 1, clipped, (0,), (True,))
        self.assertIs(is_cut(home, logs_of(home, (0,)), (True,)), False)
        self.assertIs(kept_right(home, (((1, (True,)),), ()), (1,)), False)
        self.assertIs(kept_right(home, (((1, (1,)),), ()), (True,)), False)
        self.assertIs(saved_right(home, logs_of(home, (0,)), ((0, True), (0,))), False)
        self.assertIs(saved_right(home, logs_of(home, (0,)), ((False, 1), (0,))), False)
        refuses(self, BadMark, 0, moved, (True,), (0,), 1)
        refuses(self, BadLogs, (0, 0, 0), head, home, (((True, (1,)),), ()))
        refuses(self, BadLogs, (0, 0, 0), logs_text, home, (((1, (True,)),), ()))
        refuses(self, BadMeeting, (0, True), Live(home).whole, (0, True))


class Files(unittest.TestCase):
    def sources(self):
        return [(path.name, path.read_text()) for path in sorted(PACKAGE.glob("*.py"))]

    def test_the_folder_contains_just_plain_files(self):
        for path in PACKAGE.iterdir():
            if path.name != "__pycache__":
                self.assertRegex(path.name, r"^[a-z_]+\.py$")

    def test_sizes_and_signs(self):
        for name, text in self.sources():
            self.assertLess(text.count("\n"), 400, name)
            for line in text.split("\n"):
                self.assertLessEqual(len(line), 120, name)
                self.assertTrue(all(" " <= sign <= "~" for sign in line), name)
            for node in ast.walk(ast.parse(text)):
                if isinstance(node, ast.FunctionDef):
                    self.assertLessEqual(node.end_lineno - node.lineno + 1, 40, node.name)

    def test_imports_are_from_the_package_alone(self):
        for name, text in self.sources():
            for node in ast.walk(ast.parse(text)):
                self.assertNotIsInstance(node, ast.Import, name)
                if isinstance(node, ast.ImportFrom):
                    self.assertTrue(node.module.startswith("starclocks."), name)

    def test_builtins_over_items_take_lists(self):
        # House has an __eq__, and beside one the language rules want lists here.
        for name, text in self.sources():
            for node in ast.walk(ast.parse(text)):
                self.assertNotIsInstance(node, ast.GeneratorExp, name)


if __name__ == "__main__":
    unittest.main()
