"""The interface: names, arguments, and the file in which each is defined."""

import inspect
import unittest

import tailroad.machine
import tailroad.notes
import tailroad.rows
import tailroad.trees
import tailroad.turning

FUNCTIONS = (
    (tailroad.trees, "all_calls", ["tree"]),
    (tailroad.trees, "last_calls", ["tree"]),
    (tailroad.rows, "plain", ["program"]),
    (tailroad.turning, "turned", ["code"]),
    (tailroad.machine, "begun", ["code", "which", "given"]),
    (tailroad.machine, "stepped", ["code", "state", "most"]),
    (tailroad.machine, "run", ["code", "which", "given", "steps", "most"]),
    (tailroad.machine, "walked", ["code", "which", "given", "steps", "most"]),
    (tailroad.notes, "shown", ["row"]),
    (tailroad.notes, "read", ["line"]),
)


class TestInterface(unittest.TestCase):
    def test_functions(self):
        for module, name, wanted in FUNCTIONS:
            function = getattr(module, name)
            self.assertTrue(inspect.isfunction(function), name)
            self.assertEqual(function.__module__, module.__name__)
            self.assertEqual(list(inspect.signature(function).parameters), wanted)

    def test_arguments_by_name(self):
        self.assertEqual(tailroad.trees.all_calls(tree=("num", 1)), 0)
        self.assertEqual(tailroad.trees.last_calls(tree=("num", 1)), 0)
        self.assertEqual(tailroad.rows.plain(program=[]), ([], []))
        self.assertEqual(tailroad.turning.turned(code=([], [])), ([], []))
        self.assertEqual(tailroad.notes.shown(row=("add",)), "add")
        self.assertEqual(tailroad.notes.read(line="add"), ("add",))

    def test_arguments_of_the_machine_by_name(self):
        code = ([("arg", 0), ("back",)], [(0, 1)])
        state = tailroad.machine.begun(code=code, which=0, given=[5])
        self.assertEqual(state, (0, [], [(0, [5])]))
        state = tailroad.machine.stepped(code=code, state=state, most=1)
        self.assertEqual(state, (1, [5], [(0, [5])]))
        for function in (tailroad.machine.run, tailroad.machine.walked):
            told = function(code=code, which=0, given=[5], steps=0, most=1)
            self.assertIn(told, [("dry",), (("dry",), [])])


if __name__ == "__main__":
    unittest.main()
