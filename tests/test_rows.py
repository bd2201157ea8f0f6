"""Promises 1, 3 and 6 to 9: the plain code of programs that are not refused."""

import copy
import unittest

from tailroad.rows import plain
from tests.reading import last_tree
from tests.samples import LAST_PLACES, ONE, THREE, TWO, WRAPPERS, Grower, calling, wrapped

# The functions that a tree under test may call, and how many numbers each takes.
NONE, ONE_TAKEN, TWO_TAKEN = 1, 2, 3
COUNTS = [4, 0, 1, 2]


def last_of(tree):
    """The last rows of the tree of a function that takes four numbers."""
    program = [(many, ("num", 0)) for many in COUNTS]
    program[0] = (COUNTS[0], tree)
    rows, starts = plain(program)
    end = starts[1][0]
    assert rows[end:] == [("num", 0), ("back",)] * 3, rows[end:]
    return rows[:end]


def inner_of(tree):
    """The inner rows of a tree, which stands as the part of a sure tree."""
    rows = last_of(("sure", tree))
    assert rows[-2:] == [("sure",), ("back",)], rows
    return rows[:-2]


class TestInnerRows(unittest.TestCase):
    def test_num(self):
        # Not assertEqual: Python refuses to show numbers as large as these.
        for n in (0, 1, -1, 7, -10 ** 5000, 10 ** 5000):
            self.assertTrue(inner_of(("num", n)) == [("num", n)])

    def test_arg(self):
        for k in range(4):
            self.assertEqual(inner_of(("arg", k)), [("arg", k)])

    def test_add_sub_less(self):
        for word in ("add", "sub", "less"):
            tree = (word, ("arg", 1), TWO)
            self.assertEqual(inner_of(tree), [("arg", 1), ("num", 2), (word,)])

    def test_add_within_sub_within_less(self):
        tree = ("less", ("sub", ONE, ("add", TWO, THREE)), ("add", ONE, TWO))
        self.assertEqual(inner_of(tree), [
            ("num", 1), ("num", 2), ("num", 3), ("add",), ("sub",),
            ("num", 1), ("num", 2), ("add",), ("less",),
        ])

    def test_sure(self):
        self.assertEqual(inner_of(("sure", ONE)), [("num", 1), ("sure",)])

    def test_let(self):
        rows = inner_of(("let", ONE, ("arg", 4)))
        self.assertEqual(rows, [("num", 1), ("keep",), ("arg", 4), ("drop",)])

    def test_let_within_both_parts_of_a_let(self):
        rows = inner_of(("let", ("let", ONE, ("arg", 4)), ("let", TWO, ("arg", 5))))
        self.assertEqual(rows, [
            ("num", 1), ("keep",), ("arg", 4), ("drop",), ("keep",),
            ("num", 2), ("keep",), ("arg", 5), ("drop",), ("drop",),
        ])

    def test_pick(self):
        self.assertEqual(inner_of(("pick", ONE, TWO, THREE)), [
            ("num", 1), ("unless", 2), ("num", 2), ("skip", 1), ("num", 3),
        ])

    def test_pick_with_longer_parts(self):
        tree = ("pick", ("add", ONE, ONE), ("sub", TWO, THREE), ("sure", ("sure", THREE)))
        self.assertEqual(inner_of(tree), [
            ("num", 1), ("num", 1), ("add",), ("unless", 4),
            ("num", 2), ("num", 3), ("sub",), ("skip", 3),
            ("num", 3), ("sure",), ("sure",),
        ])

    def test_pick_within_each_part_of_a_pick(self):
        asked = ("pick", ("arg", 0), ("arg", 1), ("arg", 2))
        self.assertEqual(inner_of(("pick", asked, ("pick", ONE, TWO, THREE), asked)), [
            ("arg", 0), ("unless", 2), ("arg", 1), ("skip", 1), ("arg", 2),
            ("unless", 6),
            ("num", 1), ("unless", 2), ("num", 2), ("skip", 1), ("num", 3),
            ("skip", 5),
            ("arg", 0), ("unless", 2), ("arg", 1), ("skip", 1), ("arg", 2),
        ])

    def test_call_without_args(self):
        self.assertEqual(inner_of(calling(NONE)), [("call", NONE)])

    def test_call_with_args_from_the_left(self):
        rows = inner_of(("call", TWO_TAKEN, [ONE, TWO]))
        self.assertEqual(rows, [("num", 1), ("num", 2), ("call", TWO_TAKEN)])

    def test_call_within_args(self):
        tree = ("call", TWO_TAKEN, [("call", ONE_TAKEN, [calling(NONE)]), ("let", ONE, ("arg", 4))])
        self.assertEqual(inner_of(tree), [
            ("call", NONE), ("call", ONE_TAKEN),
            ("num", 1), ("keep",), ("arg", 4), ("drop",),
            ("call", TWO_TAKEN),
        ])

    def test_pick_within_args_has_inner_rows(self):
        self.assertEqual(last_of(("call", ONE_TAKEN, [("pick", ONE, TWO, calling(NONE))])), [
            ("num", 1), ("unless", 2), ("num", 2), ("skip", 1), ("call", NONE),
            ("call", ONE_TAKEN), ("back",),
        ])


class TestLastRows(unittest.TestCase):
    def test_other_trees(self):
        call = ("call", TWO_TAKEN, [ONE, ("arg", 3)])
        for tree in (ONE, ("arg", 0), ("add", ONE, TWO), ("sub", ONE, TWO), call,
                     ("less", ONE, TWO), ("sure", ONE), calling(NONE)):
            self.assertEqual(last_of(tree), inner_of(tree) + [("back",)])

    def test_let(self):
        self.assertEqual(last_of(("let", ONE, ("arg", 4))), [
            ("num", 1), ("keep",), ("arg", 4), ("back",),
        ])

    def test_let_within_both_parts_of_a_let(self):
        rows = last_of(("let", ("let", ONE, ("arg", 4)), ("let", TWO, ("arg", 5))))
        self.assertEqual(rows, [
            ("num", 1), ("keep",), ("arg", 4), ("drop",), ("keep",),
            ("num", 2), ("keep",), ("arg", 5), ("back",),
        ])

    def test_pick(self):
        self.assertEqual(last_of(("pick", ONE, TWO, THREE)), [
            ("num", 1), ("unless", 2), ("num", 2), ("back",), ("num", 3), ("back",),
        ])

    def test_pick_within_each_part_of_a_pick(self):
        asked = ("pick", ("arg", 0), ("arg", 1), ("arg", 2))
        self.assertEqual(last_of(("pick", asked, ("pick", ONE, TWO, THREE), asked)), [
            ("arg", 0), ("unless", 2), ("arg", 1), ("skip", 1), ("arg", 2),
            ("unless", 6),
            ("num", 1), ("unless", 2), ("num", 2), ("back",), ("num", 3), ("back",),
            ("arg", 0), ("unless", 2), ("arg", 1), ("back",), ("arg", 2), ("back",),
        ])

    def test_let_within_pick_within_let(self):
        tree = ("let", ONE, ("pick", ("let", TWO, ("arg", 5)), ("let", THREE, calling(NONE)), TWO))
        self.assertEqual(last_of(tree), [
            ("num", 1), ("keep",),
            ("num", 2), ("keep",), ("arg", 5), ("drop",), ("unless", 4),
            ("num", 3), ("keep",), ("call", NONE), ("back",),
            ("num", 2), ("back",),
        ])

    def test_pick_in_the_first_part_of_a_let(self):
        self.assertEqual(last_of(("let", ("pick", ONE, TWO, THREE), ("arg", 4))), [
            ("num", 1), ("unless", 2), ("num", 2), ("skip", 1), ("num", 3),
            ("keep",), ("arg", 4), ("back",),
        ])

    def test_rows_read_back_to_the_tree(self):
        for seed in range(150):
            tree = Grower(seed).tree(6, COUNTS[0], COUNTS)
            self.assertEqual(last_tree(last_of(tree), COUNTS), tree)


class TestCode(unittest.TestCase):
    def test_program_without_functions(self):
        self.assertEqual(plain([]), ([], []))

    def test_function_that_knows_no_numbers(self):
        self.assertEqual(plain([(0, ("num", 4))]), ([("num", 4), ("back",)], [(0, 0)]))

    def test_functions_one_behind_the_other(self):
        program = [
            (2, ("pick", ("arg", 1), ("call", 2, []), ("call", 0, [ONE, ("arg", 0)]))),
            (1, ("let", ("arg", 0), ("call", 1, [("arg", 1)]))),
            (0, ("sure", TWO)),
        ]
        rows, starts = plain(program)
        self.assertEqual(rows, [
            ("arg", 1), ("unless", 2), ("call", 2), ("back",),
            ("num", 1), ("arg", 0), ("call", 0), ("back",),
            ("arg", 0), ("keep",), ("arg", 1), ("call", 1), ("back",),
            ("num", 2), ("sure",), ("back",),
        ])
        self.assertEqual(starts, [(0, 2), (8, 1), (13, 0)])

    def test_kinds_of_values(self):
        code = plain([(1, ("pick", ("arg", 0), ONE, TWO))])
        self.assertIs(type(code), tuple)
        self.assertEqual([type(part) for part in code], [list, list])
        for pair in code[0] + code[1]:
            self.assertIs(type(pair), tuple)

    def test_starts_tell_how_many_numbers_are_taken(self):
        program = [(many, ("num", many)) for many in (3, 0, 10 ** 5000, 1)]
        starts = [(0, 3), (2, 0), (4, 10 ** 5000), (6, 1)]
        self.assertTrue(plain(program)[1] == starts)

    def test_many_functions(self):
        rows, starts = plain([(0, calling(which)) for which in range(8000)])
        # Not assertEqual: it takes hours to tell how lists as long as these differ.
        self.assertTrue(starts == [(2 * at, 0) for at in range(8000)])
        self.assertTrue(rows[::2] == [("call", at) for at in range(8000)])
        self.assertTrue(rows[1::2] == [("back",)] * 8000)

    def test_many_args(self):
        rows, starts = plain([(8000, ("call", 0, [("arg", at) for at in range(8000)]))])
        self.assertTrue(rows[:-2] == [("arg", at) for at in range(8000)])
        self.assertEqual(rows[-2:], [("call", 0), ("back",)])
        self.assertEqual(starts, [(0, 8000)])

    def test_programs_read_back(self):
        for seed in range(60):
            program = Grower(seed).program(5, 4)
            rows, starts = plain(program)
            counts = [many for many, _ in program]
            ends = [place for place, _ in starts[1:]] + [len(rows)]
            found = [(many, last_tree(rows[place:end], counts))
                     for (place, many), end in zip(starts, ends)]
            self.assertEqual(starts[0][0], 0)
            self.assertEqual(found, program)

    def test_forty_deep_and_somewhat_more(self):
        for depth in (39, 40, 60, 100):
            for name in WRAPPERS:
                tree = wrapped(("arg", 1), name, depth)
                rows, starts = plain([(2, tree)])
                self.assertEqual(last_tree(rows, [2]), tree, (name, depth))
                self.assertEqual(starts, [(0, 2)])

    def test_numbers_of_a_deep_inner_pick(self):
        rows, _ = plain([(0, ("sure", wrapped(ONE, "pick, second", 40)))])
        unless = [row[1] for row in rows if row[0] == "unless"]
        self.assertEqual(unless, [2 + 4 * k for k in reversed(range(40))])
        self.assertEqual([row for row in rows if row[0] == "skip"], [("skip", 1)] * 40)

    def test_numbers_of_a_deep_last_pick(self):
        rows, _ = plain([(0, wrapped(ONE, "pick, second", 40))])
        unless = [row[1] for row in rows if row[0] == "unless"]
        self.assertEqual(unless, [2 + 4 * k for k in reversed(range(40))])
        self.assertNotIn("skip", [row[0] for row in rows])

    def test_last_calls_are_followed_by_back(self):
        for name in WRAPPERS:
            rows, _ = plain([(2, WRAPPERS[name](("call", 1, []))), (0, ONE)])
            at = rows.index(("call", 1))
            self.assertEqual(rows[at + 1] == ("back",), name in LAST_PLACES, name)


class TestNothingIsShared(unittest.TestCase):
    PROGRAM = [
        (2, ("let", ("call", 1, [ONE]), ("call", 0, [("arg", 2), ("call", 1, [TWO])]))),
        (1, ("pick", ("arg", 0), ONE, TWO)),
    ]

    def test_program_stays(self):
        program = copy.deepcopy(self.PROGRAM)
        plain(program)
        self.assertEqual(program, self.PROGRAM)

    def test_a_changed_answer_changes_no_later_one(self):
        program = copy.deepcopy(self.PROGRAM)
        first = plain(program)
        before = copy.deepcopy(first)
        first[0].clear()
        first[1].append("more")
        self.assertEqual(plain(program), before)
        self.assertEqual(program, self.PROGRAM)

    def test_lists_are_new(self):
        for program in ([], self.PROGRAM):
            first, second = plain(program), plain(program)
            self.assertIsNot(first[0], second[0])
            self.assertIsNot(first[1], second[1])
            self.assertIsNot(first[0], first[1])

    def test_empty_answers_are_not_kept(self):
        plain([])[0].append("more")
        plain([])[1].append("more")
        self.assertEqual(plain([]), ([], []))

    def test_a_later_change_of_the_program_leaves_the_answer(self):
        program = copy.deepcopy(self.PROGRAM)
        code = plain(program)
        before = copy.deepcopy(code)
        program[0][1][2][2].clear()
        program.clear()
        self.assertEqual(code, before)


if __name__ == "__main__":
    unittest.main()
