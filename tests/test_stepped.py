"""Promises 12 and 13: what each row does, and where a run ends."""

import copy
import unittest

from tailroad.machine import stepped
from tests.samples import Grower

STUCK, NOUGHT, FULL = ("stuck",), ("nought",), ("full",)
# The place of the row under test, and the functions that it may call:
# their first rows stand where no row is, so that no other row can do its work.
AT = 3
STARTS = [(40, 0), (50, 1), (60, 3)]
HUGE = 10 ** 5000

# How many values each row takes or looks at.
TAKES = {
    ("num", 4): 0, ("arg", 0): 0, ("add",): 2, ("sub",): 2, ("less",): 2, ("sure",): 1,
    ("keep",): 1, ("drop",): 0, ("unless", 5): 1, ("skip", 5): 0, ("call", 0): 0,
    ("call", 1): 1, ("call", 2): 3, ("jump", 0): 0, ("jump", 1): 1, ("jump", 2): 3,
    ("back",): 1,
}


def code_of(row):
    """A code with the row at the place under test, and one more row behind it."""
    return [("num", 8), ("num", 9), ("back",), row, ("num", 7)], STARTS


def step(row, values, frames, most=9):
    return stepped(code_of(row), (AT, values, frames), most)


def one(row, values, known=()):
    """What comes of the row where there is one frame: place, values and what it knows."""
    place, told, frames = step(row, list(values), [(30, list(known))])
    (frame,) = frames
    assert frame[0] == 30, frame
    return place, told, frame[1]


def ends(row, values, known=(), most=9):
    return step(row, list(values), [(30, list(known))], most)


class TestRows(unittest.TestCase):
    def test_num(self):
        for n in (0, 5, -5):
            self.assertEqual(one(("num", n), []), (4, [n], []))
            self.assertEqual(one(("num", n), [1, 2], [3]), (4, [1, 2, n], [3]))
        self.assertTrue(one(("num", HUGE), [1]) == (4, [1, HUGE], []))

    def test_arg(self):
        for k in range(3):
            self.assertEqual(one(("arg", k), [], [6, 7, 8]), (4, [6 + k], [6, 7, 8]))
            self.assertEqual(one(("arg", k), [1], [6, 7, 8]), (4, [1, 6 + k], [6, 7, 8]))

    def test_arg_of_the_frame_that_counts(self):
        frames = [(1, [10, 11]), (2, [20]), (3, [30, 31])]
        self.assertEqual(step(("arg", 1), [], frames), (4, [31], frames))
        self.assertEqual(step(("arg", 0), [], frames[:2]), (4, [20], frames[:2]))
        self.assertEqual(step(("arg", 1), [], frames[:2]), STUCK)

    def test_add(self):
        self.assertEqual(one(("add",), [5, 3]), (4, [8], []))
        self.assertEqual(one(("add",), [1, -5, 3], [4]), (4, [1, -2], [4]))
        self.assertTrue(one(("add",), [HUGE, HUGE]) == (4, [2 * HUGE], []))

    def test_sub_takes_the_last_one_from_the_other(self):
        self.assertEqual(one(("sub",), [5, 3]), (4, [2], []))
        self.assertEqual(one(("sub",), [1, 3, 5], [4]), (4, [1, -2], [4]))
        self.assertTrue(one(("sub",), [1, HUGE]) == (4, [1 - HUGE], []))

    def test_less(self):
        for a, b, told in ((1, 2, 1), (2, 1, 0), (2, 2, 0), (-1, 0, 1), (0, -1, 0),
                           (HUGE - 1, HUGE, 1), (HUGE, HUGE, 0), (-HUGE, HUGE, 1)):
            self.assertEqual(one(("less",), [a, b]), (4, [told], []))
            self.assertEqual(one(("less",), [9, a, b], [4]), (4, [9, told], [4]))

    def test_less_tells_a_number(self):
        for values in ([1, 2], [2, 1]):
            self.assertIs(type(one(("less",), values)[1][0]), int)

    def test_sure(self):
        for n in (1, -1, 2, HUGE):
            self.assertTrue(one(("sure",), [n]) == (4, [n], []))
            self.assertTrue(one(("sure",), [0, n], [4]) == (4, [0, n], [4]))
        self.assertEqual(ends(("sure",), [0]), NOUGHT)
        self.assertEqual(ends(("sure",), [1, 0]), NOUGHT)

    def test_sure_ends_a_run_with_more_frames(self):
        frames = [(1, []), (2, [5]), (3, [])]
        self.assertEqual(step(("sure",), [0], frames), NOUGHT)
        self.assertEqual(step(("sure",), [5], frames), (4, [5], frames))

    def test_keep(self):
        self.assertEqual(one(("keep",), [5]), (4, [], [5]))
        self.assertEqual(one(("keep",), [4, 5], [1, 2]), (4, [4], [1, 2, 5]))

    def test_keep_in_the_frame_that_counts(self):
        told = step(("keep",), [5], [(1, [10]), (2, [20])])
        self.assertEqual(told, (4, [], [(1, [10]), (2, [20, 5])]))

    def test_drop(self):
        self.assertEqual(one(("drop",), [], [5]), (4, [], []))
        self.assertEqual(one(("drop",), [4], [1, 2]), (4, [4], [1]))

    def test_drop_in_the_frame_that_counts(self):
        told = step(("drop",), [], [(1, [10]), (2, [20, 21])])
        self.assertEqual(told, (4, [], [(1, [10]), (2, [20])]))
        self.assertEqual(step(("drop",), [], [(1, [10]), (2, [])]), STUCK)

    def test_unless(self):
        for n in (0, 1, 2, 50):
            self.assertEqual(one(("unless", n), [0]), (4 + n, [], []))
            self.assertEqual(one(("unless", n), [3, 0], [1]), (4 + n, [3], [1]))
            for other in (1, -1, HUGE):
                self.assertEqual(one(("unless", n), [other]), (4, [], []))
                self.assertEqual(one(("unless", n), [0, other], [1]), (4, [0], [1]))

    def test_unless_as_the_last_row(self):
        code = [("num", 1), ("unless", 2)], STARTS
        for value, place in ((0, 4), (1, 2), (-1, 2)):
            state = stepped(code, (1, [value], [(30, [])]), 9)
            self.assertEqual(state, (place, [], [(30, [])]))
            self.assertEqual(stepped(code, state, 9), STUCK)

    def test_skip(self):
        for n in (0, 1, 2, 50):
            self.assertEqual(one(("skip", n), []), (4 + n, [], []))
            self.assertEqual(one(("skip", n), [3, 0], [1]), (4 + n, [3, 0], [1]))

    def test_skip_of_any_size(self):
        self.assertTrue(one(("skip", HUGE), []) == (4 + HUGE, [], []))
        self.assertTrue(one(("unless", HUGE), [0]) == (4 + HUGE, [], []))

    def test_call(self):
        self.assertEqual(step(("call", 2), [1, 2, 3, 4], [(30, [5])]),
                         (60, [1], [(30, [5]), (4, [2, 3, 4])]))
        self.assertEqual(step(("call", 1), [1], [(30, [5])]), (50, [], [(30, [5]), (4, [1])]))

    def test_call_of_a_function_that_takes_no_numbers(self):
        self.assertEqual(step(("call", 0), [], [(30, [5])]), (40, [], [(30, [5]), (4, [])]))
        self.assertEqual(step(("call", 0), [1, 2], [(30, [])]),
                         (40, [1, 2], [(30, []), (4, [])]))

    def test_call_with_more_frames(self):
        frames = [(30, [5]), (31, [6])]
        self.assertEqual(step(("call", 1), [1, 2], frames), (50, [1], frames + [(4, [2])]))

    def test_jump(self):
        self.assertEqual(step(("jump", 2), [1, 2, 3, 4], [(30, [5])]),
                         (60, [1], [(30, [2, 3, 4])]))
        self.assertEqual(step(("jump", 1), [1], [(30, [5, 6])]), (50, [], [(30, [1])]))

    def test_jump_to_a_function_that_takes_no_numbers(self):
        self.assertEqual(step(("jump", 0), [], [(30, [5])]), (40, [], [(30, [])]))
        self.assertEqual(step(("jump", 0), [1, 2], [(30, [])]), (40, [1, 2], [(30, [])]))

    def test_jump_with_more_frames(self):
        frames = [(30, [5]), (31, [6])]
        self.assertEqual(step(("jump", 1), [1, 2], frames), (50, [1], [(30, [5]), (31, [2])]))

    def test_starts_of_any_place(self):
        for place in (0, 1, AT, 99, HUGE):
            code = [("call", 0), ("jump", 0)], [(place, 0)]
            self.assertTrue(stepped(code, (0, [], [(7, [5])]), 9)
                            == (place, [], [(7, [5]), (1, [])]))
            self.assertTrue(stepped(code, (1, [], [(7, [5])]), 9) == (place, [], [(7, [])]))

    def test_back_with_more_frames(self):
        frames = [(30, [5]), (31, [6]), (32, [7])]
        self.assertEqual(step(("back",), [1, 2], frames), (32, [1, 2], frames[:2]))
        self.assertEqual(step(("back",), [1, 2], frames[:2]), (31, [1, 2], frames[:1]))

    def test_back_with_more_frames_and_no_value(self):
        frames = [(30, [5]), (31, [6])]
        self.assertEqual(step(("back",), [], frames), (31, [], frames[:1]))

    def test_back_with_one_frame(self):
        self.assertEqual(ends(("back",), [5]), ("value", 5))
        self.assertEqual(ends(("back",), [4, 5, 0]), ("value", 0))
        self.assertTrue(ends(("back",), [-HUGE]) == ("value", -HUGE))

    def test_back_with_one_frame_and_no_value(self):
        self.assertEqual(ends(("back",), []), STUCK)
        self.assertEqual(ends(("back",), [], [1, 2]), STUCK)


class TestStuck(unittest.TestCase):
    def test_just_as_many_values_as_are_taken(self):
        for row, takes in TAKES.items():
            self.assertNotEqual(ends(row, [5] * takes, [1]), STUCK, row)
            self.assertNotEqual(ends(row, [5] * (takes + 1), [1]), STUCK, row)

    def test_one_value_too_few(self):
        for row, takes in TAKES.items():
            if takes:
                self.assertEqual(ends(row, [5] * (takes - 1), [1]), STUCK, row)
                self.assertEqual(ends(row, [], [1]), STUCK, row)

    def test_one_value_too_few_with_more_frames(self):
        frames = [(30, [1]), (31, [1])]
        for row, takes in TAKES.items():
            if takes and row != ("back",):
                self.assertEqual(step(row, [5] * (takes - 1), frames), STUCK, row)

    def test_places_below_nought(self):
        for row in TAKES:
            for place in (-1, -2, -5, -6, -HUGE):
                state = place, [5] * 5, [(30, [1])]
                self.assertEqual(stepped(code_of(row), state, 9), STUCK)

    def test_places_just_behind_the_rows(self):
        for row in TAKES:
            for place in (5, 6, 99, HUGE):
                state = place, [5] * 5, [(30, [1])]
                self.assertEqual(stepped(code_of(row), state, 9), STUCK)

    def test_the_last_and_the_first_place(self):
        for place, value in ((4, 7), (0, 8)):
            state = place, [], [(30, [])]
            self.assertEqual(stepped(code_of(("add",)), state, 9),
                             (place + 1, [value], [(30, [])]))

    def test_code_without_rows(self):
        for place in (-1, 0, 1):
            self.assertEqual(stepped(([], STARTS), (place, [5], [(30, [])]), 9), STUCK)

    def test_arg_of_a_number_that_is_not_known(self):
        for known in range(4):
            for k in (known, known + 1, HUGE):
                self.assertEqual(ends(("arg", k), [5], [6] * known), STUCK)

    def test_drop_of_a_number_that_is_not_known(self):
        self.assertEqual(ends(("drop",), []), STUCK)
        self.assertEqual(ends(("drop",), [5, 6]), STUCK)

    def test_functions_that_the_code_has_not(self):
        for word in ("call", "jump"):
            for which in (3, 4, HUGE):
                self.assertEqual(ends((word, which), [5] * 5, [1]), STUCK)

    def test_functions_of_a_code_that_has_none(self):
        for word in ("call", "jump"):
            for which in (0, 1):
                state = 0, [5], [(30, [])]
                self.assertEqual(stepped(([(word, which)], []), state, 9), STUCK)

    def test_functions_that_take_numbers_of_any_size(self):
        for word in ("call", "jump"):
            state = 0, [5], [(30, [])]
            self.assertEqual(stepped(([(word, 0)], [(0, HUGE)]), state, 9), STUCK)


class TestFull(unittest.TestCase):
    FRAMES = [(place, []) for place in range(30, 35)]

    def test_call_with_frames_about_the_most(self):
        for which, values in ((0, []), (1, [4]), (2, [4, 5, 6])):
            for frames in (1, 2, 5):
                shown = self.FRAMES[:frames]
                told = step(("call", which), values, shown, frames + 1)
                self.assertEqual(told, (STARTS[which][0], [], shown + [(4, values)]))
                for most in range(1, frames + 1):
                    self.assertEqual(step(("call", which), values, shown, most), FULL)

    def test_jump_is_never_full(self):
        for which, values in ((0, []), (1, [4]), (2, [4, 5, 6])):
            for frames in (1, 2, 5):
                shown = self.FRAMES[:frames]
                want = STARTS[which][0], [], shown[:-1] + [(shown[-1][0], values)]
                for most in range(1, frames + 2):
                    self.assertEqual(step(("jump", which), values, shown, most), want)

    def test_a_stuck_call_where_the_frames_are_full(self):
        for frames in (1, 2, 5):
            for most in range(1, frames + 1):
                shown = self.FRAMES[:frames]
                self.assertEqual(step(("call", 1), [], shown, most), STUCK)
                self.assertEqual(step(("call", 2), [4, 5], shown, most), STUCK)
                self.assertEqual(step(("call", 3), [4, 5], shown, most), STUCK)

    def test_no_other_row_is_full(self):
        for row in TAKES:
            if row[0] != "call":
                for frames in (1, 2, 5):
                    shown = [(place, [3]) for place, _ in self.FRAMES[:frames]]
                    self.assertEqual(step(row, [5] * 3, shown, 1), step(row, [5] * 3, shown, 9))

    def test_many_frames(self):
        frames = [(place, []) for place in range(2000)]
        self.assertEqual(step(("call", 0), [], frames, 2000), FULL)
        self.assertTrue(step(("call", 0), [], frames[:-1], 2000)
                        == (40, [], frames[:-1] + [(4, [])]))
        self.assertTrue(step(("back",), [], frames, 2000) == (1999, [], frames[:-1]))


class TestNothingIsChanged(unittest.TestCase):
    def states(self):
        """Each row with many values and with none, with frames of each number."""
        for row in TAKES:
            for values in ([], [0], [4, 5, 6, 0], [4, 5, 6, 7]):
                for frames in ([(30, [])], [(30, [1])], [(30, [1, 2]), (31, [3])]):
                    for most in (1, 9):
                        yield code_of(row), (AT, values, frames), most

    def test_code_and_state_stay(self):
        for code, state, most in self.states():
            before = copy.deepcopy((code, state))
            first = stepped(code, state, most)
            self.assertEqual((code, state), before)
            self.assertEqual(stepped(code, state, most), first)

    def test_a_changed_answer_changes_neither_code_nor_state(self):
        for code, state, most in self.states():
            before = copy.deepcopy((code, state))
            told = stepped(code, state, most)
            if len(told) == 3:
                told[1].append("more")
                for _, known in told[2]:
                    known.append("more")
                told[2].clear()
            self.assertEqual((code, state), before)

    def test_kinds_of_values(self):
        for code, state, most in self.states():
            told = stepped(code, state, most)
            self.assertIs(type(told), tuple)
            if len(told) == 3:
                self.assertEqual([type(part) for part in told], [int, list, list])
                for frame in told[2]:
                    self.assertIs(type(frame), tuple)
                    self.assertEqual([type(part) for part in frame], [int, list])
            else:
                self.assertIn(told[0], ("value", "nought", "stuck", "full"))
                self.assertEqual(len(told), 2 if told[0] == "value" else 1)

    def test_grown_codes(self):
        for seed in range(200):
            grower = Grower(seed)
            code = grower.code(8, 3)
            for place in range(8):
                values = [grower.chance.randrange(3) for _ in range(grower.chance.randrange(4))]
                state = place, values, [(1, [2]), (3, [])]
                before = copy.deepcopy((code, state))
                stepped(code, state, 3)
                self.assertEqual((code, state), before)


if __name__ == "__main__":
    unittest.main()
