"""[22]: the names, the arguments and where they are defined."""

import importlib
import inspect
import unittest

FUNCTIONS = {
    "programs": {
        "all_ends": ["program"],
        "surely_ended": ["program", "one", "other"],
        "readers": ["program", "value"],
        "with_wait": ["program", "one", "other"],
        "without_wait": ["program", "one", "other"],
        "with_kept": ["program", "value"],
    },
    "runs": {
        "is_beginning": ["program", "thing"],
        "is_run": ["program", "thing"],
        "next_deeds": ["program", "beginning"],
        "live": ["program", "beginning"],
        "run_of": ["program", "order"],
        "live_at": ["program", "run", "number"],
        "moments_of": ["program", "run", "value"],
        "most_live": ["program", "run"],
        "how_many_runs": ["program"],
        "nth_run": ["program", "number"],
        "number_of_run": ["program", "run"],
    },
    "meets": {
        "dead_ahead": ["program", "one", "other"],
        "can_meet": ["program", "one", "other"],
        "all_dead": ["program"],
        "all_meets": ["program"],
        "chains_for": ["program", "one", "other"],
        "is_chains_for": ["program", "one", "other", "thing"],
        "run_to_meet": ["program", "one", "other"],
        "is_run_to_meet": ["program", "one", "other", "thing"],
    },
    "lots": {
        "is_lot": ["program", "some"],
        "is_row": ["program", "some"],
        "great_lots": ["program"],
        "great_rows": ["program"],
        "is_moment_set": ["program", "some"],
        "great_moments": ["program"],
        "most_at_once": ["program"],
        "widest_lot": ["program"],
        "run_to_moment": ["program", "some"],
        "is_run_to_moment": ["program", "some", "thing"],
    },
    "sizes": {
        "is_sizes": ["program", "thing"],
        "sum_of": ["program", "sizes", "values"],
        "peak": ["program", "run", "sizes"],
        "first_peak": ["program", "run", "sizes"],
        "worst": ["program", "sizes"],
        "deeds_to_worst": ["program", "sizes"],
        "is_deeds_to_worst": ["program", "sizes", "thing"],
        "spare": ["program", "sizes", "value"],
        "tight": ["program", "sizes"],
        "lots_of": ["program", "sizes"],
        "heaviest_lot": ["program", "sizes"],
        "is_heaviest_lot": ["program", "sizes", "thing"],
        "least_peak": ["program", "sizes"],
        "best_order": ["program", "sizes"],
        "is_best_order": ["program", "sizes", "thing"],
    },
    "layouts": {
        "is_layout": ["program", "thing"],
        "a_layout": ["program"],
        "how_many_layouts": ["program"],
        "all_layouts": ["program"],
        "places_by": ["program", "layout", "sizes"],
        "need": ["program", "layout", "sizes"],
        "highest_pile": ["program", "layout", "sizes"],
        "is_highest_pile": ["program", "layout", "sizes", "thing"],
        "great_piles": ["program", "layout"],
        "clashes": ["program", "sizes", "places"],
        "layout_of": ["program", "sizes", "places"],
    },
    "waste": {
        "waste": ["program", "layout"],
        "no_waste": ["program", "layout"],
        "step_over": ["program", "layout"],
        "row_in_pile": ["program", "layout", "number"],
        "is_row_in_pile": ["program", "layout", "number", "thing"],
        "partings": ["program", "layout", "number"],
        "is_partings": ["program", "layout", "number", "thing"],
        "sizes_against": ["program", "layout", "number"],
        "is_sizes_against": ["program", "layout", "number", "thing"],
        "as_much": ["program", "layout", "sizes"],
        "best_layout": ["program"],
        "least_waste": ["program"],
    },
    "lines": {
        "forced": ["program", "one", "other"],
        "barring": ["program"],
        "is_barring": ["program", "thing"],
        "two_lines": ["program"],
        "is_two_lines": ["program", "thing"],
        "layout_of_lines": ["program", "lines"],
        "lines_of_layout": ["program", "layout"],
        "all_clean": ["program"],
    },
    "places": {
        "fewest_places": ["program"],
        "placed": ["program"],
        "is_placed": ["program", "thing"],
        "lot_against": ["program", "number"],
        "is_lot_against": ["program", "number", "thing"],
        "places_by_rows": ["program"],
        "are_places": ["program", "thing"],
        "in_each_lot": ["program"],
    },
    "loss": {
        "lost_lot": ["program"],
        "never_lost": ["program"],
        "is_lost_lot": ["program", "thing"],
        "loss_of": ["program", "lot"],
        "least_loss": ["program"],
        "cover_of": ["program", "lot"],
        "is_cover_of": ["program", "lot", "thing"],
        "lossy_sizes": ["program"],
        "is_lossy_sizes": ["program", "thing"],
    },
    "compare": {
        "lot_row": ["one", "other"],
        "is_lot_row": ["one", "other", "thing"],
        "lot_factor": ["one", "other"],
        "lot_row_of": ["one", "other", "number"],
        "lot_partings": ["one", "other", "number"],
        "is_lot_partings": ["one", "other", "number", "thing"],
        "lot_sizes": ["one", "other", "number"],
        "is_lot_sizes": ["one", "other", "number", "thing"],
        "moment_against": ["one", "other"],
        "is_moment_against": ["one", "other", "thing"],
        "never_worse": ["one", "other"],
        "alike_worst": ["one", "other"],
        "same_meets": ["one", "other"],
    },
    "straight": {
        "is_order": ["program", "thing"],
        "lives": ["program", "order"],
        "alive_at": ["program", "order", "place"],
        "together": ["program", "order"],
        "straight_program": ["program", "order"],
        "peak_of": ["program", "order", "sizes"],
        "elder_below": ["program", "order"],
        "first_free": ["program", "order", "sizes"],
        "room_of": ["program", "order", "sizes"],
        "together_apart": ["program", "one", "other"],
        "orders_factor": ["program", "one", "other"],
        "is_together_apart": ["program", "one", "other", "thing"],
    },
    "rounds": {
        "chain_behind": ["rounds", "one", "other", "gap"],
        "meets_behind": ["rounds", "one", "other", "gap"],
        "are_enough": ["rounds", "value", "number"],
        "enough_to": ["rounds", "value", "most"],
        "least_copies": ["rounds", "value", "most"],
    },
    "added": {
        "are_rows": ["program", "rows"],
        "forced_ends": ["program", "rows"],
        "with_rows": ["program", "rows"],
        "parted_by": ["program", "one", "other"],
        "is_idle_wait": ["program", "one", "other"],
        "fewest_waits": ["program", "rows"],
    },
    "desk": {
        "answers": ["text"],
    },
    "texts": {
        "steps_text": ["steps"],
        "pairs_text": ["pairs"],
        "sizes_text": ["sizes"],
        "run_text": ["run"],
        "steps_from": ["text"],
        "pairs_from": ["text"],
        "sizes_from": ["text"],
        "run_from": ["text"],
    },
}
CLASSES = {
    "programs": {
        "Program": ["__init__", "of", "steps", "reads", "waits", "kept", "text",
                    "__len__", "__contains__", "__eq__"],
    },
    "rounds": {
        "Rounds": ["__init__", "program", "reads_on", "waits_on", "__eq__"],
    },
    "changes": {
        "Watch": ["__init__", "program", "sizes", "most", "told", "wait", "free", "keep", "let_go", "size", "back", "twin",
                  "__len__", "__eq__"],
    },
    "board": {
        "Board": ["__init__", "names", "deeds", "put", "drop", "rename", "let_wait", "let_run", "hold", "undo", "twin",
                  "can_meet", "room_for", "never_worse", "lot_factor", "__len__", "__contains__", "__getitem__", "__eq__"],
    },
}
# The arguments of the methods, behind the object.
METHODS = {
    "changes": {
        "Watch": {
            "wait": ["one", "other"],
            "free": ["one", "other"],
            "keep": ["value"],
            "let_go": ["value"],
            "size": ["value", "number"],
            "back": [],
            "twin": [],
        },
    },
    "board": {
        "Board": {
            "put": ["name", "program"],
            "drop": ["name"],
            "rename": ["name", "new"],
            "let_wait": ["name", "one", "other"],
            "let_run": ["name", "one", "other"],
            "hold": ["name", "value"],
            "undo": [],
            "twin": [],
            "can_meet": ["name", "one", "other"],
            "room_for": ["name", "sizes"],
            "never_worse": ["name", "to"],
            "lot_factor": ["name", "to"],
        },
    },
}
# The errors with the attributes that they keep.
ERRORS = {
    "BadDeed": ["place"], "BadLayout": ["place"], "BadLine": ["number"], "BadPair": ["place"], "BadText": ["piece"],
    "Known": ["name"], "NoNumber": ["number"], "NoPlace": ["number"], "NoProgram": ["name"], "NoStep": ["name"],
    "NothingDone": [], "OtherSteps": [],
}


class TestInterface(unittest.TestCase):

    def test_functions_take_these_arguments_and_stand_in_this_file(self):
        for file, functions in FUNCTIONS.items():
            module = importlib.import_module(f"seatsahead.{file}")
            for name, arguments in functions.items():
                with self.subTest(file=file, name=name):
                    function = getattr(module, name)
                    self.assertTrue(inspect.isfunction(function))
                    self.assertEqual(function.__module__, module.__name__)
                    self.assertEqual(list(inspect.signature(function).parameters), arguments)

    def test_classes_define_what_is_listed_for_them_themselves(self):
        for file, classes in CLASSES.items():
            module = importlib.import_module(f"seatsahead.{file}")
            for name, members in classes.items():
                with self.subTest(file=file, name=name):
                    self.assertEqual(getattr(module, name).__module__, module.__name__)
                    self.assertEqual(set(members) - set(vars(getattr(module, name))), set())

    def test_methods_take_these_arguments(self):
        for file, classes in METHODS.items():
            module = importlib.import_module(f"seatsahead.{file}")
            for name, methods in classes.items():
                for method, arguments in methods.items():
                    with self.subTest(file=file, name=name, method=method):
                        told = inspect.signature(vars(getattr(module, name))[method]).parameters
                        self.assertEqual(list(told)[1:], arguments)

    def test_the_errors_stand_in_their_file(self):
        module = importlib.import_module("seatsahead.errors")
        for name, arguments in ERRORS.items():
            error = getattr(module, name)
            self.assertEqual((error.__bases__, error.__module__), ((module.SeatError,), module.__name__))
            self.assertEqual(list(inspect.signature(error).parameters), arguments)
        self.assertEqual(module.SeatError.__bases__, (ValueError,))

    def test_the_arguments_of_a_watch_and_a_board(self):
        watch = importlib.import_module("seatsahead.changes").Watch
        self.assertEqual(list(inspect.signature(watch).parameters), ["program", "sizes"])
        self.assertEqual(list(inspect.signature(importlib.import_module("seatsahead.board").Board).parameters), [])

    def test_the_arguments_of_a_program(self):
        program = importlib.import_module("seatsahead.programs").Program
        told = inspect.signature(program).parameters
        self.assertEqual(list(told), ["steps", "reads", "waits", "kept"])
        self.assertEqual([told[name].default for name in ("reads", "waits", "kept")], [(), (), ()])
        self.assertIs(told["steps"].default, inspect.Parameter.empty)
        self.assertEqual(list(inspect.signature(program.of).parameters), ["text"])
        self.assertIsInstance(vars(program)["of"], staticmethod)

    def test_the_arguments_of_rounds(self):
        told = inspect.signature(importlib.import_module("seatsahead.rounds").Rounds).parameters
        self.assertEqual(list(told), ["program", "reads_on", "waits_on"])
        self.assertEqual([told[name].default for name in ("reads_on", "waits_on")], [(), ()])
        self.assertIs(told["program"].default, inspect.Parameter.empty)
