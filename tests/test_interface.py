"""[22]: the names, the arguments and where they are defined."""

import importlib
import inspect
import unittest

FUNCTIONS = {
    "programs": {
        "all_ends": ["program"],
        "surely_ended": ["program", "one", "other"],
        "readers": ["program", "value"],
        "with_wait": ["program", "one", "other"],
        "without_wait": ["program", "one", "other"],
        "with_kept": ["program", "value"],
    },
    "texts": {
        "steps_text": ["steps"],
        "pairs_text": ["pairs"],
        "sizes_text": ["sizes"],
        "run_text": ["run"],
        "steps_from": ["text"],
        "pairs_from": ["text"],
        "sizes_from": ["text"],
        "run_from": ["text"],
    },
}
CLASSES = {
    "programs": {
        "Program": ["__init__", "of", "steps", "reads", "waits", "kept", "text",
                    "__len__", "__contains__", "__eq__"],
    },
}


class TestInterface(unittest.TestCase):

    def test_functions_take_these_arguments_and_stand_in_this_file(self):
        for file, functions in FUNCTIONS.items():
            module = importlib.import_module(f"seatsahead.{file}")
            for name, arguments in functions.items():
                with self.subTest(file=file, name=name):
                    function = getattr(module, name)
                    self.assertTrue(inspect.isfunction(function))
                    self.assertEqual(function.__module__, module.__name__)
                    self.assertEqual(list(inspect.signature(function).parameters), arguments)

    def test_classes_define_what_is_listed_for_them_themselves(self):
        for file, classes in CLASSES.items():
            module = importlib.import_module(f"seatsahead.{file}")
            for name, members in classes.items():
                with self.subTest(file=file, name=name):
                    self.assertEqual(getattr(module, name).__module__, module.__name__)
                    self.assertEqual(set(members) - set(vars(getattr(module, name))), set())

    def test_the_arguments_of_a_program(self):
        program = importlib.import_module("seatsahead.programs").Program
        told = inspect.signature(program).parameters
        self.assertEqual(list(told), ["steps", "reads", "waits", "kept"])
        self.assertEqual([told[name].default for name in ("reads", "waits", "kept")], [(), (), ()])
        self.assertIs(told["steps"].default, inspect.Parameter.empty)
        self.assertEqual(list(inspect.signature(program.of).parameters), ["text"])
        self.assertIsInstance(vars(program)["of"], staticmethod)
