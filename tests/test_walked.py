"""Promises 11, 13 and 14: whole runs, how they end, and the marks of their steps."""

import copy
import unittest

from tailroad.machine import begun, run, stepped, walked
from tailroad.rows import plain
from tailroad.turning import turned
from tests.reckoning import Reckoner
from tests.samples import ONE, TWO, Grower

DRY, STUCK, NOUGHT, FULL = ("dry",), ("stuck",), ("nought",), ("full",)
HUGE = 10 ** 5000

# For each kind of ending a code, what is given, the most, the ending and all its marks.
ENDINGS = (
    ("value", ([("arg", 0), ("num", 2), ("add",), ("back",)], [(0, 1)]), [40], 1,
     ("value", 42), [(0, 1, 0), (1, 1, 1), (2, 1, 2), (3, 1, 1)]),
    ("value, behind a call",
     ([("arg", 0), ("call", 1), ("num", 1), ("add",), ("back",), ("arg", 0), ("back",)],
      [(0, 1), (5, 1)]), [4], 2, ("value", 5),
     [(0, 1, 0), (1, 1, 1), (5, 2, 0), (6, 2, 1), (2, 1, 1), (3, 1, 2), (4, 1, 1)]),
    ("value, of several",
     ([("num", 1), ("num", 2), ("back",)], [(0, 0)]), [], 1,
     ("value", 2), [(0, 1, 0), (1, 1, 1), (2, 1, 2)]),
    ("nought", ([("num", 0), ("sure",), ("back",)], [(0, 0)]), [], 1,
     NOUGHT, [(0, 1, 0), (1, 1, 1)]),
    ("nought, within a call",
     ([("call", 1), ("back",), ("num", 3), ("num", 0), ("sure",)], [(0, 0), (2, 0)]), [], 2,
     NOUGHT, [(0, 1, 0), (2, 2, 0), (3, 2, 1), (4, 2, 2)]),
    ("stuck at a row", ([("num", 1), ("add",)], [(0, 0)]), [], 1,
     STUCK, [(0, 1, 0), (1, 1, 1)]),
    ("stuck at no row", ([("num", 1), ("skip", 5)], [(0, 0)]), [], 1,
     STUCK, [(0, 1, 0), (1, 1, 1), (7, 1, 1)]),
    ("stuck at once", ([], [(0, 0)]), [], 1, STUCK, [(0, 1, 0)]),
    ("stuck below nought", ([("num", 1)], [(-1, 0)]), [], 1, STUCK, [(-1, 1, 0)]),
    ("stuck, back without a value", ([("back",)], [(0, 2)]), [1, 2], 1, STUCK, [(0, 1, 0)]),
    ("full", ([("num", 4), ("call", 0)], [(0, 0)]), [], 2,
     FULL, [(0, 1, 0), (1, 1, 1), (0, 2, 1), (1, 2, 2)]),
    ("full at once", ([("call", 0)], [(0, 0)]), [], 1, FULL, [(0, 1, 0)]),
)


class RunCase(unittest.TestCase):
    def told(self, code, which, given, steps, most):
        """What walked tells; run must tell the same end, and nothing may be changed."""
        before = copy.deepcopy((code, given))
        found = walked(code, which, given, steps, most)
        self.assertTrue(run(code, which, given, steps, most) == found[0])
        self.assertTrue((code, given) == before)
        return found


class TestEndings(RunCase):
    def test_marks_of_each_kind_of_ending(self):
        for name, code, given, most, end, marks in ENDINGS:
            for steps in (len(marks), len(marks) + 1, 2000):
                self.assertEqual(self.told(code, 0, given, steps, most), (end, marks), name)

    def test_dry_has_no_mark_for_a_step_that_it_did_not_begin(self):
        for name, code, given, most, _, marks in ENDINGS:
            for steps in range(len(marks)):
                want = DRY, marks[:steps]
                self.assertEqual(self.told(code, 0, given, steps, most), want, name)

    def test_no_steps_at_all(self):
        for _, code, given, most, _, _ in ENDINGS:
            self.assertEqual(self.told(code, 0, given, 0, most), (DRY, []))

    def test_dry_without_an_end(self):
        code = [("jump", 0)], [(0, 0)]
        for steps in (0, 1, 7, 2000):
            self.assertEqual(self.told(code, 0, [], steps, 1), (DRY, [(0, 1, 0)] * steps))

    def test_nought_is_told_at_the_sure_row_alone(self):
        code = [("num", 0), ("num", 3), ("sure",), ("drop",)], [(0, 1)]
        marks = [(0, 1, 0), (1, 1, 1), (2, 1, 2), (3, 1, 2), (4, 1, 2)]
        self.assertEqual(self.told(code, 0, [5], 9, 1), (STUCK, marks))

    def test_each_function_of_a_code(self):
        code = [("num", 1), ("back",), ("num", 2), ("back",)], [(2, 0), (0, 0), (1, 0), (2, 1)]
        self.assertEqual(self.told(code, 0, [], 9, 1), (("value", 2), [(2, 1, 0), (3, 1, 1)]))
        self.assertEqual(self.told(code, 1, [], 9, 1), (("value", 1), [(0, 1, 0), (1, 1, 1)]))
        self.assertEqual(self.told(code, 2, [], 9, 1), (STUCK, [(1, 1, 0)]))
        self.assertEqual(self.told(code, 3, [9], 9, 1)[0], ("value", 2))

    def test_the_first_frame_does_not_go_back_to_nought(self):
        code = [("num", 1), ("back",)], [(1, 0), (0, 0)]
        self.assertEqual(self.told(code, 0, [], 9, 9), (STUCK, [(1, 1, 0)]))

    def test_known_numbers_of_a_frame_are_there_again_behind_a_call(self):
        program = [
            (2, ("sub", ("call", 1, [("arg", 1)]), ("arg", 0))),
            (1, ("let", ("arg", 0), ("add", ("arg", 0), ("arg", 1)))),
        ]
        self.assertEqual(self.told(plain(program), 0, [3, 50], 99, 9)[0], ("value", 97))


class TestKinds(RunCase):
    def test_kinds_of_values(self):
        for _, code, given, most, _, _ in ENDINGS:
            for steps in (0, 1, 99):
                told = walked(code, 0, given, steps, most)
                self.assertEqual([type(part) for part in (told, *told)], [tuple, tuple, list])
                self.assertIs(type(run(code, 0, given, steps, most)), tuple)
                for mark in told[1]:
                    self.assertIs(type(mark), tuple)
                    self.assertEqual([type(part) for part in mark], [int] * 3)

    def test_marks_are_a_new_list(self):
        for _, code, given, most, end, marks in ENDINGS:
            for steps in (0, 99):
                first = walked(code, 0, given, steps, most)
                before = copy.deepcopy(first)
                first[1].append("more")
                self.assertEqual(walked(code, 0, given, steps, most), before)


class TestMany(RunCase):
    def test_two_thousand_steps(self):
        rows = [("num", 1), ("keep",)] * 999 + [("num", 6), ("back",)]
        code = rows, [(0, 0)]
        end, marks = self.told(code, 0, [], 2000, 1)
        self.assertEqual((end, len(marks)), (("value", 6), 2000))
        self.assertEqual(self.told(code, 0, [], 1999, 1), (DRY, marks[:-1]))
        self.assertEqual([mark[0] for mark in marks], list(range(2000)))

    def test_two_thousand_frames(self):
        code = [("call", 0)], [(0, 0)]
        marks = [(0, frames, 0) for frames in range(1, 2001)]
        self.assertEqual(self.told(code, 0, [], 2000, 2000), (FULL, marks))
        self.assertEqual(self.told(code, 0, [], 1999, 2000), (DRY, marks[:-1]))
        self.assertEqual(self.told(code, 0, [], 2000, 1999), (FULL, marks[:-1]))
        self.assertEqual(self.told(code, 0, [], 2000, 2001), (DRY, marks))

    def test_somewhat_more_steps_and_frames(self):
        code = [("call", 0)], [(0, 0)]
        end, marks = self.told(code, 0, [], 5000, 4000)
        self.assertEqual((end, len(marks), marks[-1]), (FULL, 4000, (0, 4000, 0)))

    def test_a_thousand_frames_there_and_back(self):
        rows = [row for which in range(1, 1000) for row in (("call", which), ("back",))]
        code = rows + [("num", 3), ("back",)], [(2 * which, 0) for which in range(1000)]
        end, marks = self.told(code, 0, [], 2000, 1000)
        self.assertEqual((end, len(marks)), (("value", 3), 2000))
        self.assertEqual(max(frames for _, frames, _ in marks), 1000)
        self.assertEqual(self.told(code, 0, [], 1999, 1000), (DRY, marks[:-1]))
        self.assertEqual(self.told(code, 0, [], 2000, 999), (FULL, marks[:999]))
        end, marks = self.told(turned(code), 0, [], 1001, 1)
        self.assertEqual((end, len(marks)), (("value", 3), 1001))

    def test_frames_that_wait_with_a_value(self):
        # Adds up as many ones as the number tells, each behind its call.
        tree = ("pick", ("arg", 0),
                ("add", ONE, ("call", 0, [("sub", ("arg", 0), ONE)])), ("num", 0))
        for code in (plain([(1, tree)]), turned(plain([(1, tree)]))):
            end, marks = self.told(code, 0, [200], 2000, 201)
            self.assertEqual(end, ("value", 200))
            self.assertEqual(max(frames for _, frames, _ in marks), 201)
            self.assertEqual(max(values for _, _, values in marks), 202)
            self.assertEqual(self.told(code, 0, [200], 2000, 200)[0], FULL)

    def test_numbers_of_many_figures(self):
        # The second number is doubled as often as the first one tells.
        tree = ("pick", ("arg", 0),
                ("call", 0, [("sub", ("arg", 0), ONE), ("add", ("arg", 1), ("arg", 1))]),
                ("arg", 1))
        for code in (plain([(2, tree)]), turned(plain([(2, tree)]))):
            self.assertEqual(self.told(code, 0, [150, 1], 2000, 200)[0], ("value", 2 ** 150))
            end = self.told(code, 0, [100, -HUGE], 2000, 200)[0]
            self.assertTrue(end == ("value", -HUGE * 2 ** 100))

    def test_many_figures_are_reckoned_whole(self):
        for word, number in (("add", HUGE + 1), ("sub", HUGE - 1), ("less", 0)):
            code = plain([(1, (word, ("arg", 0), ONE))])
            self.assertTrue(self.told(code, 0, [HUGE], 9, 1)[0] == ("value", number))

    def test_many_numbers_given(self):
        given = list(range(8000))
        code = plain([(8000, ("call", 0, [("arg", 7999 - at) for at in range(8000)]))])
        told = self.told(code, 0, given, 2000, 1)
        self.assertEqual((told[0], told[1][-1]), (DRY, (1999, 1, 1999)))
        end = self.told(plain([(8000, ("sub", ("arg", 7999), ("arg", 1)))]), 0, given, 9, 1)[0]
        self.assertEqual(end, ("value", 7998))


class TestStepByStep(RunCase):
    def by_steps(self, code, which, given, steps, most):
        """What walked ought to tell, by begun and stepped."""
        state, marks = begun(code, which, given), []
        for _ in range(steps):
            marks.append((state[0], len(state[2]), len(state[1])))
            state = stepped(code, state, most)
            if len(state) < 3:
                return state, marks
        return DRY, marks

    def test_grown_codes(self):
        ends = {}
        for seed in range(1500):
            code = Grower(seed).code(10, 3)
            for which, (_, many) in enumerate(code[1]):
                told = self.told(code, which, [3] * many, 60, 6)
                self.assertEqual(told, self.by_steps(code, which, [3] * many, 60, 6))
                ends[told[0][0]] = ends.get(told[0][0], 0) + 1
        self.assertTrue(all(ends.get(word, 0) > 20 for word in
                            ("value", "nought", "stuck", "full", "dry")), ends)

    def test_plain_code_of_grown_programs(self):
        for seed in range(150):
            code = plain(Grower(seed).program(5, 3))
            for which, (_, many) in enumerate(code[1]):
                told = self.told(code, which, [3] * many, 100, 8)
                self.assertEqual(told, self.by_steps(code, which, [3] * many, 100, 8))


class TestTrees(RunCase):
    """Promise 2, by way of plain code: the number that the machine tells is the tree's."""

    def number(self, tree, given=(), others=()):
        program = [(len(given), tree), *others]
        told = self.told(plain(program), 0, list(given), 2000, 2000)[0]
        self.assertEqual(told, self.told(turned(plain(program)), 0, list(given), 2000, 2000)[0])
        return told

    def test_each_kind(self):
        self.assertEqual(self.number(("num", -4)), ("value", -4))
        self.assertEqual(self.number(("arg", 1), [5, 6]), ("value", 6))
        self.assertEqual(self.number(("add", ONE, TWO)), ("value", 3))
        self.assertEqual(self.number(("sub", ONE, TWO)), ("value", -1))
        self.assertEqual(self.number(("less", ONE, TWO)), ("value", 1))
        self.assertEqual(self.number(("less", TWO, TWO)), ("value", 0))
        self.assertEqual(self.number(("sure", TWO)), ("value", 2))
        self.assertEqual(self.number(("sure", ("num", 0))), NOUGHT)
        self.assertEqual(self.number(("let", TWO, ("add", ("arg", 0), ("arg", 0)))), ("value", 4))
        self.assertEqual(self.number(("call", 1, [ONE, TWO]), [],
                                     [(2, ("sub", ("arg", 0), ("arg", 1)))]), ("value", -1))

    def test_the_other_choice_is_not_reckoned(self):
        ending = ("sure", ("num", 0))
        for n in (1, -1, 7):
            self.assertEqual(self.number(("pick", ("num", n), TWO, ending)), ("value", 2))
            self.assertEqual(self.number(("sure", ("pick", ("num", n), TWO, ending))), ("value", 2))
        self.assertEqual(self.number(("pick", ("num", 0), ending, TWO)), ("value", 2))
        self.assertEqual(self.number(("sure", ("pick", ("num", 0), ending, TWO))), ("value", 2))

    def test_grown_programs(self):
        ends = {}
        for seed in range(400):
            program = Grower(seed).program(5, 3)
            for which, (many, _) in enumerate(program):
                given = [seed % 5 - 2] * many
                want = Reckoner(program, 200).function(which, given)
                if want:
                    ends[want[0]] = ends.get(want[0], 0) + 1
                    for code in (plain(program), turned(plain(program))):
                        self.assertEqual(self.told(code, which, given, 2000, 2000)[0], want)
        self.assertTrue(all(ends.get(word, 0) > 50 for word in ("value", "nought")), ends)


if __name__ == "__main__":
    unittest.main()
