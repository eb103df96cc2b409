"""[1], [2], [3] and the interface: names, arguments, the files of definition, and what all functions have in common."""

import ast
import importlib
import inspect
import pathlib
import unittest

from noneleft.books import Book
from noneleft.desk import Desk
from noneleft.hall import Hall
from noneleft.sights import Sights
from refusals import Refusals
from samples import CLOCKS, PAIRS, UNSAFE
from test_sights import SEEN, WRONG
from trial import is_plain

PACKAGE = pathlib.Path(__file__).resolve().parent.parent / "noneleft"

INTERFACE = {
    "errors": {"LeftError": None, "InvalidBook": "at", "InvalidCrowd": "at", "InvalidRun": "at", "InvalidGroup": "at",
               "InvalidQuestion": "at", "InvalidText": "at", "NotSafe": "at", "Refused": "at", "InvalidCommand": None},
    "books": {"Book": "kinds batches", "checked_crowd": "book value", "fits": "book batch crowd",
              "fitting": "book crowd", "least_batches": "book"},
    "runs": {"left_by": "book crowd run", "all_ends": "book crowd", "first_run": "book crowd",
             "is_clearable": "book crowd", "clearing_run": "book crowd", "run_between": "book crowd remnant",
             "crowd_of": "book run"},
    "booktexts": {"book_text": "book", "read_book": "text"},
    "tables": {"signed_table": "book", "signed_numbers": "book row", "name_of": "book row", "is_nought": "book row",
               "same_names": "one other", "with_batch": "book batch", "without_batch": "book batch", "needed": "book",
               "generating": "book"},
    "naming": {"hours_of": "kinds value row", "moduli": "book", "naming": "book", "is_naming": "book value",
               "name_count": "book", "all_names": "book", "order_of": "book row", "like_kinds": "book",
               "table_of": "kinds value", "translation": "book one other"},
    "covers": {"least_covers": "book batch", "is_least_cover": "book batch value"},
    "court": {"is_safe": "book", "require_safe": "book", "safe_paper": "book", "least_wrong": "book",
              "unsafe_paper": "book", "strange_crowd": "book", "summed_batches": "book", "is_safe_paper": "book value",
              "is_unsafe_paper": "book value", "is_strange": "book value", "goes_wrong": "book crowd"},
    "stuck": {"stuck_crowds": "book size", "stuck_counts": "book most", "alone": "book", "most_left": "book",
              "largest_stuck": "book", "stuck_by_name": "book"},
    "remnants": {"told_remnants": "book crowd", "tells_ends": "book crowd", "greedy_counts": "book crowd",
                 "counts_between": "book crowd remnant"},
    "least": {"least_left": "book crowd costs", "least_remnants": "book crowd costs", "least_run": "book crowd costs",
              "coming_cost": "book crowd costs", "least_coming": "book crowd costs",
              "added_cost": "book crowd batch costs"},
    "prices": {"cheapest_crowds": "book costs", "highest_prices": "book costs", "unlike_ends": "book costs",
               "is_price_list": "book costs value", "is_unlike": "book costs value"},
    "lengths": {"clearing_lengths": "book crowd", "ending_lengths": "book crowd",
                "clearing_of_length": "book crowd length", "ending_of_length": "book crowd length"},
    "weights": {"weight_of": "book weights row", "is_steady": "book", "steady_weights": "book", "unlike_counts": "book",
                "length_step": "book", "step_counts": "book", "step_hours": "book", "are_steady_weights": "book value",
                "are_unlike_counts": "book value", "are_step_hours": "book step value"},
    "spreads": {"spread": "book", "spread_paper": "book", "unlike_lengths": "book", "is_spread_paper": "book value",
                "is_unlike_lengths": "book value", "told_length": "book crowd"},
    "completion": {"completion": "book", "missing": "book", "grown": "book"},
    "parts": {"without_kinds": "book kinds", "made_one": "book one other", "is_alike": "book one other",
              "beside": "one other", "parts": "book", "part": "book kinds"},
    "counting": {"period": "book", "count_named": "book size row", "count_noughts": "book size", "starts": "book row",
                 "count_up_to": "book size row", "sizes": "book", "missing_sizes": "book"},
    "ranking": {"crowd_at": "book size row index", "index_of": "book crowd", "next_named": "book crowd"},
    "sights": {"Sights": "kinds pairs", "with_sight": "sights value", "agrees": "book sights", "seen_book": "sights",
               "fitting_naming": "sights", "wrong_paper": "sights", "is_fitting_naming": "sights value",
               "is_wrong_paper": "sights value"},
    "guesses": {"standing": "sights crowd", "may_be_left": "sights crowd", "sure_batches": "sights size",
                "is_settled": "sights", "open_crowd": "sights"},
    "told": {"told_book": "kinds value", "is_telling": "book value", "telling": "book", "idle_kinds": "kinds value",
             "standing_crowd": "kinds value", "weights": "kinds value"},
    "lots": {"reached": "kinds value", "stands_apart": "kinds value lot", "meeting": "kinds value lot",
             "names_beside": "kinds value more other"},
    "free": {"is_free": "clocks value", "longest_free": "clocks"},
    "hall": {"Hall": "book"},
    "sheets": {"is_clearing": "book crowd value", "sheet_holds": "value", "sheet": "name question", "wrong_sheets": "values"},
    "desk": {"Desk": ""},
}

METHODS = {
    "books": {"Book": {"__init__": "kinds batches", "__eq__": "other"}},
    "sights": {"Sights": {"__init__": "kinds pairs", "__eq__": "other"}},
    "hall": {"Hall": {"__init__": "book", "__len__": "", "waiting": "", "arrived": "", "gone": "", "come": "crowd", "go": "batch",
                      "go_all": "", "change": "book", "name": "", "is_stuck": "", "could_clear": "", "is_even": "",
                      "lost": "", "undo": "", "within": "work"}},
    "desk": {"Desk": {"__init__": "", "say": "command"}},
}
CLASSES = [name for names in METHODS.values() for name in names]


class Interface(unittest.TestCase):

    def test_each_name_is_defined_in_its_file(self):
        for module, names in INTERFACE.items():
            tree = ast.parse((PACKAGE / f"{module}.py").read_text())
            found = {node.name for node in tree.body if isinstance(node, (ast.FunctionDef, ast.ClassDef))}
            for name in names:
                self.assertIn(name, found, module)

    def test_arguments(self):
        for module, names in INTERFACE.items():
            loaded = importlib.import_module(f"noneleft.{module}")
            for name, wanted in names.items():
                if wanted is not None:
                    parameters = inspect.signature(getattr(loaded, name)).parameters.values()
                    self.assertEqual(" ".join(one.name for one in parameters), wanted, name)
                    for one in parameters:
                        self.assertEqual((one.kind, one.default), (one.POSITIONAL_OR_KEYWORD, one.empty), name)

    def test_methods_are_defined_in_the_class_itself(self):
        for module, classes in METHODS.items():
            loaded = importlib.import_module(f"noneleft.{module}")
            for name, methods in classes.items():
                for method, wanted in methods.items():
                    self.assertIn(method, vars(getattr(loaded, name)), name)
                    parameters = list(inspect.signature(vars(getattr(loaded, name))[method]).parameters.values())[1:]
                    self.assertEqual(" ".join(one.name for one in parameters), wanted, (name, method))
                    for one in parameters:
                        self.assertEqual((one.kind, one.default), (one.POSITIONAL_OR_KEYWORD, one.empty), (name, method))

    def test_attributes_of_new_objects(self):
        self.assertEqual(vars(SEEN).keys(), {"kinds", "pairs"})
        self.assertEqual(vars(PAIRS).keys(), {"kinds", "batches"})
        self.assertIs(Hall(PAIRS).book, PAIRS)
        self.assertIsNone(Desk().hall)


class InCommon(Refusals):

    # Arguments that are right for the names above, with which each function tells something.
    ARGUMENTS = {"book": PAIRS, "value": ((3, (1, 2)),), "batch": 1, "crowd": [3, 3], "run": [0, 2], "remnant": [0, 0],
                 "text": "kinds 1\n2", "row": [-3, 4], "one": ((3, (1, 2)),), "other": ((3, (2, 1)),), "kinds": 2,
                 "size": 2, "most": 3, "costs": [1, 2], "length": 3, "weights": (2, (1, 1)),
                 "step": 1, "index": 1, "sights": SEEN, "more": 2, "lot": (1,), "clocks": (2, 3), "name": "clears",
                 "question": (PAIRS, [3, 3]), "values": [("safe", (PAIRS,), ()), None]}
    OTHERS = {"checked_crowd": {"value": [4, 4]}, "least_wrong": {"book": UNSAFE}, "unsafe_paper": {"book": UNSAFE},
              "strange_crowd": {"book": UNSAFE}, "goes_wrong": {"book": UNSAFE, "crowd": [2, 2]},
              "same_names": {"one": PAIRS, "other": UNSAFE}, "with_batch": {"batch": (1, 2)},
              "steady_weights": {"book": UNSAFE}, "told_length": {"book": CLOCKS}, "completion": {"book": UNSAFE},
              "missing": {"book": UNSAFE}, "grown": {"book": UNSAFE}, "without_kinds": {"kinds": (1,)},
              "made_one": {"one": 1, "other": 0}, "is_alike": {"one": 1, "other": 0},
              "beside": {"one": PAIRS, "other": UNSAFE}, "part": {"kinds": (0, 1)},
              "crowd_at": {"size": 3, "row": [0, 0]}, "next_named": {"crowd": [0, 3]}, "with_sight": {"value": ((1, 1), (0, 0))},
              "wrong_paper": {"sights": WRONG}, "meeting": {"value": ((3, (1, 1)),)}, "is_clearing": {"value": (0, 2)},
              "is_free": {"value": ((0, 1), (1, 0))}, "sheet_holds": {"value": ("clears", (PAIRS, [3, 3]), (0, 2))},
              "sure_batches": {"size": 4}}

    def test_what_is_told_is_in_tuples_and_no_bool(self):
        for name, function, arguments in self.calls():
            found = function(**arguments)
            if name == "grown":
                self.assertIs(type(found), tuple)
            elif isinstance(found, Book):
                self.assertTrue(is_plain((found.kinds, found.batches)))
            elif isinstance(found, Sights):
                self.assertTrue(is_plain((found.kinds, found.pairs)))
            elif name == "sheet":
                self.assertTrue(is_plain(found[2]) and type(found) is type(found[1]) is tuple)
            elif not isinstance(found, (str, bool)) and found is not None:
                self.assertTrue(is_plain(found), (name, found))
            wanted = name.startswith(("is_", "are_")) or name in (
                "fits", "same_names", "tells_ends", "agrees", "stands_apart", "sheet_holds")
            self.assertEqual(isinstance(found, bool), wanted, name)

    def test_by_names_and_by_places_alike_and_each_time(self):
        for name, function, arguments in self.calls():
            self.assertEqual(function(**arguments), function(*arguments.values()), name)
            self.assertEqual(function(**arguments), function(**dict(reversed(arguments.items()))), name)

    def test_arguments_stay(self):
        for name, function, arguments in self.calls():
            before = repr([value for value in arguments.values() if type(value) is list])
            function(**arguments)
            self.assertEqual(repr([value for value in arguments.values() if type(value) is list]), before, name)
        self.assertEqual(PAIRS, Book(2, [(0, 3), (1, 1), (3, 0)]))
        self.assertEqual(UNSAFE, Book(2, [(1, 1), (2, 0)]))
        self.assertEqual(SEEN, Sights(2, [((2, 1), (1, 0)), ((0, 2), (0, 2))]))

    def calls(self):
        found = []
        for module, names in INTERFACE.items():
            if module != "errors":
                for name, wanted in names.items():
                    if name not in CLASSES:
                        arguments = {one: self.OTHERS.get(name, {}).get(one, self.ARGUMENTS[one]) for one in wanted.split()}
                        found.append((name, getattr(importlib.import_module(f"noneleft.{module}"), name), arguments))
        return found


if __name__ == "__main__":
    unittest.main()
