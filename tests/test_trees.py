"""Promises 2, 3 and 4: trees, and the calls in them that stand in last place."""

import copy
import unittest

from tailroad.trees import all_calls, last_calls
from tests.samples import LAST_PLACES, ONE, TWO, WRAPPERS, Grower, calling, wrapped

CALL = calling(0)


def both(tree):
    return all_calls(tree), last_calls(tree)


def counted(tree):
    """All calls of a tree, found as tuples in the text that Python shows."""
    return repr(tree).count("'call'")


class TestWithoutCalls(unittest.TestCase):
    def test_leaves(self):
        self.assertEqual(both(("num", 5)), (0, 0))
        self.assertEqual(both(("num", -10 ** 5000)), (0, 0))
        self.assertEqual(both(("arg", 0)), (0, 0))

    def test_each_kind(self):
        for name in WRAPPERS:
            if not name.startswith("call"):
                self.assertEqual(both(WRAPPERS[name](ONE)), (0, 0), name)


class TestOneCall(unittest.TestCase):
    def test_whole_tree(self):
        self.assertEqual(both(CALL), (1, 1))

    def test_whole_tree_with_args(self):
        self.assertEqual(both(("call", 7, [ONE, TWO, ("arg", 0)])), (1, 1))

    def test_place_of_the_function_does_not_count(self):
        for which in (-1, 0, 1, 8000):
            self.assertEqual(both(calling(which)), (1, 1))

    def test_just_in_each_kind(self):
        for name in WRAPPERS:
            last = 1 if name in LAST_PLACES else 0
            own = 1 if name.startswith("call") else 0
            self.assertEqual(both(WRAPPERS[name](CALL)), (1 + own, last + own), name)

    def test_within_two_kinds(self):
        for outer in WRAPPERS:
            for inner in WRAPPERS:
                tree = WRAPPERS[outer](WRAPPERS[inner](CALL))
                self.assertEqual(both(tree), self.of_two(outer, inner), (outer, inner))

    def of_two(self, outer, inner):
        calls = [outer.startswith("call"), inner.startswith("call")]
        last = calls[0]
        if outer in LAST_PLACES:
            last += calls[1] + (inner in LAST_PLACES)
        return 1 + sum(calls), last


class TestManyCalls(unittest.TestCase):
    def test_both_choices_of_a_pick(self):
        self.assertEqual(both(("pick", CALL, CALL, CALL)), (3, 2))

    def test_let(self):
        self.assertEqual(both(("let", CALL, CALL)), (2, 1))

    def test_picks_and_lets_in_last_place(self):
        tree = ("let", CALL, ("pick", ONE, ("let", CALL, CALL), ("pick", CALL, CALL, ONE)))
        self.assertEqual(both(tree), (5, 2))

    def test_pick_that_is_asked_is_not_in_last_place(self):
        tree = ("pick", ("pick", ONE, CALL, CALL), CALL, TWO)
        self.assertEqual(both(tree), (3, 1))

    def test_pick_and_let_in_the_first_part_of_a_let(self):
        self.assertEqual(both(("let", ("pick", ONE, CALL, CALL), ONE)), (2, 0))
        self.assertEqual(both(("let", ("let", CALL, CALL), ONE)), (2, 0))

    def test_args_of_args(self):
        tree = ("call", 0, [CALL, ("call", 1, [CALL, ("call", 2, [CALL])])])
        self.assertEqual(both(tree), (6, 1))

    def test_picks_and_lets_within_args_are_not_in_last_place(self):
        tree = ("call", 0, [("pick", CALL, CALL, CALL), ("let", CALL, CALL)])
        self.assertEqual(both(tree), (6, 1))

    def test_many_args(self):
        self.assertEqual(both(("call", 0, [CALL] * 8000)), (8001, 1))
        self.assertEqual(both(("add", ONE, ("call", 0, [CALL] * 9000))), (9001, 0))

    def test_bushy_trees(self):
        for seed in range(60):
            tree = Grower(seed).tree(7, 2, [0, 1, 2, 3])
            self.assertEqual(all_calls(tree), counted(tree))


class TestDeep(unittest.TestCase):
    def test_forty_deep_and_somewhat_more(self):
        for depth in (39, 40, 60, 100):
            for name in WRAPPERS:
                tree = wrapped(CALL, name, depth)
                if name.startswith("call"):
                    want = (depth + 1, 1)
                else:
                    want = (1, 1 if name in LAST_PLACES else 0)
                self.assertEqual(both(tree), want, (name, depth))


class TestNothingIsChanged(unittest.TestCase):
    def test_tree_stays(self):
        tree = ("let", CALL, ("call", 1, [("call", 2, [CALL, ONE]), TWO]))
        before = copy.deepcopy(tree)
        first = both(tree)
        self.assertEqual(tree, before)
        self.assertEqual(both(tree), first)

    def test_a_list_changed_later_counts_anew(self):
        args = [CALL]
        tree = ("call", 0, args)
        self.assertEqual(both(tree), (2, 1))
        args.append(CALL)
        self.assertEqual(both(tree), (3, 1))


if __name__ == "__main__":
    unittest.main()
