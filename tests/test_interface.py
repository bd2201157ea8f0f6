"""The interface: names, arguments, and the file in which each is defined."""

import inspect
import unittest

import tailroad.rows
import tailroad.trees

FUNCTIONS = (
    (tailroad.trees, "all_calls", ["tree"]),
    (tailroad.trees, "last_calls", ["tree"]),
    (tailroad.rows, "plain", ["program"]),
)


class TestInterface(unittest.TestCase):
    def test_functions(self):
        for module, name, wanted in FUNCTIONS:
            function = getattr(module, name)
            self.assertTrue(inspect.isfunction(function), name)
            self.assertEqual(function.__module__, module.__name__)
            self.assertEqual(list(inspect.signature(function).parameters), wanted)

    def test_arguments_by_name(self):
        self.assertEqual(tailroad.trees.all_calls(tree=("num", 1)), 0)
        self.assertEqual(tailroad.trees.last_calls(tree=("num", 1)), 0)
        self.assertEqual(tailroad.rows.plain(program=[]), ([], []))


if __name__ == "__main__":
    unittest.main()
