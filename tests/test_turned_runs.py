"""Promise 15: runs of a code and of the turned code, side by side."""

import unittest

from tailroad.machine import begun, run, stepped, walked
from tailroad.rows import plain
from tailroad.trees import all_calls, last_calls
from tailroad.turning import turned
from tests.samples import ONE, TWO, Grower

BACK = ("back",)
SAME = ("value", "nought", "stuck")


def is_turned(code, place):
    """Whether the row at a place is a call that has a back row as the next row."""
    return code[0][place][0] == "call" and code[0][place + 1:place + 2] == [BACK]


def turned_marks(code, which, given, steps, most):
    """How a run of the code ends, and the marks that are promised for the turned code."""
    state, marks = begun(code, which, given), []
    by_turned = [False]  # for each frame, whether a call began it that is turned
    is_left_out = False  # whether such a frame went back to the row at the place
    for _ in range(steps):
        place, values, frames = state
        if not is_left_out:
            marks.append((place, len(frames) - sum(by_turned), len(values)))
        is_left_out = False
        state = stepped(code, state, most)
        if len(state) < 3:
            return state, marks
        if code[0][place][0] == "call":
            by_turned.append(is_turned(code, place))
        if code[0][place] == BACK:
            is_left_out = by_turned.pop()
    return ("dry",), marks


class SideBySide(unittest.TestCase):
    def side_by_side(self, code, which, given, steps, most):
        """How the code ends; the turned code ends so, too, and its marks are those promised."""
        end, marks = turned_marks(code, which, given, steps, most)
        self.assertEqual(run(code, which, given, steps, most), end)
        if end[0] in SAME:
            found = walked(turned(code), which, given, steps, most)
            self.assertEqual(found, (end, marks), (code, which, given, most))
        return end


class TestSamples(SideBySide):
    def both(self, code, given, most=9):
        first = walked(code, 0, given, 2000, most)
        second = walked(turned(code), 0, given, 2000, most)
        self.side_by_side(code, 0, given, 2000, most)
        return first, second

    def test_value(self):
        code = [("num", 5), ("call", 1), BACK, ("arg", 0), BACK], [(0, 0), (3, 1)]
        first, second = self.both(code, [])
        self.assertEqual(first, (("value", 5), [
            (0, 1, 0), (1, 1, 1), (3, 2, 0), (4, 2, 1), (2, 1, 1),
        ]))
        self.assertEqual(second, (("value", 5), [(0, 1, 0), (1, 1, 1), (3, 1, 0), (4, 1, 1)]))

    def test_nought(self):
        code = [("num", 0), ("call", 1), BACK, ("arg", 0), ("sure",)], [(0, 0), (3, 1)]
        first, second = self.both(code, [])
        self.assertEqual(first, (("nought",), [
            (0, 1, 0), (1, 1, 1), (3, 2, 0), (4, 2, 1),
        ]))
        self.assertEqual(second, (("nought",), [(0, 1, 0), (1, 1, 1), (3, 1, 0), (4, 1, 1)]))

    def test_stuck_in_a_call(self):
        code = [("call", 1), BACK, ("add",)], [(0, 0), (2, 0)]
        first, second = self.both(code, [])
        self.assertEqual(first, (("stuck",), [(0, 1, 0), (2, 2, 0)]))
        self.assertEqual(second, (("stuck",), [(0, 1, 0), (2, 1, 0)]))

    def test_stuck_at_a_back_row_that_a_frame_went_back_to(self):
        code = [("call", 1), BACK, BACK], [(0, 0), (2, 0)]
        first, second = self.both(code, [])
        self.assertEqual(first, (("stuck",), [(0, 1, 0), (2, 2, 0), (1, 1, 0)]))
        self.assertEqual(second, (("stuck",), [(0, 1, 0), (2, 1, 0)]))

    def test_stuck_calls(self):
        for row in (("call", 1), ("call", 2), ("call", 9)):
            code = [row, BACK], [(0, 0), (0, 1), (0, 2)]
            first, second = self.both(code, [], most=1)
            self.assertEqual((first, second), ((("stuck",), [(0, 1, 0)]),) * 2)

    def test_where_the_code_is_full_the_turned_code_may_go_on(self):
        code = [("arg", 0), ("call", 1), BACK, ("arg", 0), BACK], [(0, 1), (3, 1)]
        first, second = self.both(code, [6], most=1)
        self.assertEqual((first[0], second[0]), (("full",), ("value", 6)))

    def test_back_rows_of_calls_that_are_not_turned_are_not_left_out(self):
        code = [("call", 1), ("skip", 0), BACK, ("call", 2), BACK, ("num", 8), BACK], [
            (0, 0), (3, 0), (5, 0)]
        first, second = self.both(code, [])
        self.assertEqual(first, (("value", 8), [
            (0, 1, 0), (3, 2, 0), (5, 3, 0), (6, 3, 1), (4, 2, 1), (1, 1, 1), (2, 1, 1),
        ]))
        self.assertEqual(second, (("value", 8), [
            (0, 1, 0), (3, 2, 0), (5, 2, 0), (6, 2, 1), (1, 1, 1), (2, 1, 1),
        ]))

    def test_back_rows_that_are_come_upon_otherwise_are_not_left_out(self):
        # The skip leads to the back row behind a call, once and without the call.
        code = [("num", 4), ("skip", 1), ("call", 0), BACK], [(0, 0)]
        first, second = self.both(code, [])
        self.assertEqual(first, second)
        self.assertEqual(second, (("value", 4), [(0, 1, 0), (1, 1, 1), (3, 1, 1)]))

    def test_jumps_that_are_there_already(self):
        code = [("call", 1), BACK, ("jump", 2), ("num", 4), BACK], [(0, 0), (2, 0), (3, 0)]
        first, second = self.both(code, [])
        self.assertEqual(first, (("value", 4), [
            (0, 1, 0), (2, 2, 0), (3, 2, 0), (4, 2, 1), (1, 1, 1),
        ]))
        self.assertEqual(second, (("value", 4), [(0, 1, 0), (2, 1, 0), (3, 1, 0), (4, 1, 1)]))

    def test_values_left_below(self):
        code = [("num", 1), ("num", 2), ("call", 1), BACK, ("num", 3), BACK], [(0, 0), (4, 0)]
        first, second = self.both(code, [])
        self.assertEqual((first[0], second[0]), (("value", 3), ("value", 3)))
        self.assertEqual(second[1][-1], (5, 1, 3))

    def test_two_thousand_steps(self):
        rows = [row for which in range(1, 1000) for row in (("call", which), BACK)]
        code = rows + [("num", 3), BACK], [(2 * which, 0) for which in range(1000)]
        first, second = self.both(code, [], most=1000)
        self.assertEqual([len(first[1]), len(second[1])], [2000, 1001])
        self.assertEqual({frames for _, frames, _ in second[1]}, {1})

    def test_a_jump_leaves_as_many_frames_as_there_were(self):
        code = [("call", 1), ("add",), ("jump", 1)], [(0, 0), (2, 0)]
        _, marks = walked(code, 0, [], 50, 9)
        self.assertEqual(marks[1:], [(2, 2, 0)] * 49)


class TestGrown(SideBySide):
    def test_codes_that_a_program_did_not_make(self):
        ends, jumped = {}, {}
        for seed in range(4000):
            grower = Grower(seed)
            code = grower.code(12, 4)
            for which, (_, many) in enumerate(code[1]):
                given = [grower.chance.randrange(-1, 3) for _ in range(many)]
                end = self.side_by_side(code, which, given, 80, 1 + seed % 8)[0]
                ends[end] = ends.get(end, 0) + 1
                if walked(code, which, given, 80, 9) != walked(turned(code), which, given, 80, 9):
                    jumped[end] = jumped.get(end, 0) + 1
        for word in SAME:
            self.assertGreater(ends.get(word, 0), 50, ends)
            self.assertGreater(jumped.get(word, 0), 0, jumped)

    def test_plain_code(self):
        for seed in range(400):
            program = Grower(seed).program(5, 3)
            code = plain(program)
            for which, (many, _) in enumerate(program):
                for n in (0, 1, -2):
                    end = self.side_by_side(code, which, [n] * many, 150, 1 + seed % 30)
                    self.assertNotEqual(end, ("stuck",))

    def test_plain_code_that_is_changed(self):
        """Rows that make sense for the greater part, so that runs get far."""
        ends = {}
        for seed in range(1500):
            grower = Grower(seed)
            program = grower.program(4, 3)
            rows, starts = plain(program)
            for _ in range(1 + seed % 3):
                rows[grower.chance.randrange(len(rows))] = grower.row(len(rows), 3)
            for which, (many, _) in enumerate(program):
                end = self.side_by_side((rows, starts), which, [1] * many, 100, 12)[0]
                ends[end] = ends.get(end, 0) + 1
        self.assertTrue(all(ends.get(word, 0) > 50 for word in SAME), ends)


class TestPlainCode(unittest.TestCase):
    def programs(self):
        for seed in range(400):
            program = Grower(seed).program(5, 3)
            code = plain(program)
            for which, (many, _) in enumerate(program):
                for n in (0, 3):
                    yield program, code, which, [n] * many

    def test_never_stuck(self):
        for _, code, which, given in self.programs():
            for either in (code, turned(code)):
                for most in (1, 2, 2000):
                    end = run(either, which, given, 300, most)
                    self.assertIn(end[0], ("value", "nought", "full", "dry"))

    def test_a_value_is_the_only_one_there_is(self):
        found = 0
        for _, code, which, given in self.programs():
            for either in (code, turned(code)):
                end, marks = walked(either, which, given, 300, 2000)
                if end[0] == "value":
                    found += 1
                    self.assertEqual(marks[-1][1:], (1, 1))
        self.assertGreater(found, 500)

    def test_values_given_ahead_of_the_run_are_none(self):
        for tree in (ONE, ("let", ONE, TWO), ("pick", ONE, TWO, ONE), ("add", ONE, TWO)):
            _, marks = walked(plain([(0, tree)]), 0, [], 99, 1)
            self.assertEqual((marks[0][2], marks[-1][2]), (0, 1))


class TestAllInLastPlace(unittest.TestCase):
    def one_frame(self, program, which, given):
        """The turned code never has a second frame, and is never full."""
        for _, tree in program:
            self.assertEqual(all_calls(tree), last_calls(tree))
        end, marks = walked(turned(plain(program)), which, given, 2000, 1)
        self.assertEqual({frames for _, frames, _ in marks}, {1})
        self.assertNotIn(end[0], ("full", "stuck"))
        return end

    def test_counting_down(self):
        down = ("call", 0, [("sub", ("arg", 0), ONE), ("add", ("arg", 1), ("arg", 0))])
        program = [(2, ("pick", ("arg", 0), down, ("arg", 1)))]
        self.assertEqual(self.one_frame(program, 0, [100, 0]), ("value", 5050))
        self.assertEqual(run(plain(program), 0, [100, 0], 2000, 100), ("full",))
        self.assertEqual(run(plain(program), 0, [100, 0], 2000, 101), ("value", 5050))

    def test_two_functions_that_call_each_other(self):
        less = ("sub", ("arg", 0), ONE)
        program = [
            (1, ("pick", ("arg", 0), ("call", 1, [less]), ONE)),
            (1, ("let", ("arg", 0), ("pick", ("arg", 1), ("call", 0, [less]), ("num", 0)))),
        ]
        for n in range(60):
            self.assertEqual(self.one_frame(program, 0, [n]), ("value", 1 - n % 2))
            self.assertEqual(self.one_frame(program, 1, [n]), ("value", n % 2))

    def test_without_an_end(self):
        self.assertEqual(self.one_frame([(0, ("call", 0, []))], 0, []), ("dry",))

    def test_without_calls(self):
        self.assertEqual(self.one_frame([(1, ("add", ("arg", 0), ONE))], 0, [4]), ("value", 5))

    def test_a_call_elsewhere_has_a_second_frame(self):
        program = [(0, ("sure", ("call", 1, []))), (0, ONE)]
        self.assertEqual(run(turned(plain(program)), 0, [], 99, 1), ("full",))

    def test_grown_programs(self):
        ends = {}
        for seed in range(6000):
            program = Grower(seed).program(4, 3)
            if all(all_calls(tree) == last_calls(tree) for _, tree in program):
                for which, (many, _) in enumerate(program):
                    end = self.one_frame(program, which, [seed % 3] * many)[0]
                    ends[end] = ends.get(end, 0) + 1
        self.assertGreater(ends.get("value", 0), 100, ends)


if __name__ == "__main__":
    unittest.main()
