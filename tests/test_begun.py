"""Promise 11: how runs begin, and what begun, run and walked refuse."""

import copy
import unittest

from tailroad.errors import BadCount, NoFunction, NoRow, RoadError, Unknown
from tailroad.machine import begun, run, walked

KINDS = (NoFunction, BadCount, Unknown, NoRow)
# Three functions that take none, two and one number; the last one begins behind the rows.
CODE = [("num", 1), ("back",), ("arg", 0), ("back",)], [(0, 0), (2, 2), (4, 1)]
EMPTY = [], []


class TestBegun(unittest.TestCase):
    def test_each_function(self):
        self.assertEqual(begun(CODE, 0, []), (0, [], [(0, [])]))
        self.assertEqual(begun(CODE, 1, [7, -8]), (2, [], [(0, [7, -8])]))
        self.assertEqual(begun(CODE, 2, [0]), (4, [], [(0, [0])]))

    def test_starts_of_any_place(self):
        for place in (0, 1, 5, 99, 10 ** 5000):
            told = begun(([], [(place, 1)]), 0, [3])
            self.assertTrue(told == (place, [], [(0, [3])]))

    def test_numbers_of_any_size(self):
        given = [10 ** 5000, -10 ** 5000, 0]
        self.assertTrue(begun(([], [(0, 3)]), 0, given) == (0, [], [(0, given)]))

    def test_many_numbers(self):
        given = list(range(8000))
        self.assertTrue(begun(([], [(0, 8000)]), 0, given) == (0, [], [(0, given)]))

    def test_kinds_of_values(self):
        state = begun(CODE, 1, [7, 8])
        self.assertIs(type(state), tuple)
        self.assertEqual([type(part) for part in state], [int, list, list])
        (frame,) = state[2]
        self.assertIs(type(frame), tuple)
        self.assertEqual([type(part) for part in frame], [int, list])

    def test_lists_are_new(self):
        given = [7, 8]
        first, second = begun(CODE, 1, given), begun(CODE, 1, given)
        self.assertIsNot(first[1], second[1])
        self.assertIsNot(first[2], second[2])
        self.assertIsNot(first[2][0][1], second[2][0][1])
        self.assertIsNot(first[2][0][1], given)

    def test_a_changed_answer_changes_nothing_else(self):
        code, given = copy.deepcopy(CODE), [7, 8]
        state = begun(code, 1, given)
        state[1].append(1)
        state[2][0][1].clear()
        state[2].append("more")
        self.assertEqual((code, given), (CODE, [7, 8]))
        self.assertEqual(begun(code, 1, given), (2, [], [(0, [7, 8])]))

    def test_a_later_change_of_what_was_given_leaves_the_answer(self):
        given = [7, 8]
        state = begun(CODE, 1, given)
        given.clear()
        self.assertEqual(state, (2, [], [(0, [7, 8])]))


class TestRefused(unittest.TestCase):
    def refused(self, code, which, given, kind):
        """Each of the three refuses, whatever steps and most are told."""
        self.refuses(kind, begun, code, which, given)
        for steps in (0, 1, 2000):
            for most in (1, 2000):
                self.refuses(kind, run, code, which, given, steps, most)
                self.refuses(kind, walked, code, which, given, steps, most)

    def refuses(self, kind, function, *told):
        before = copy.deepcopy(told)
        with self.assertRaises(kind) as caught:
            function(*told)
        self.assertIs(type(caught.exception), kind)
        self.assertIsInstance(caught.exception, RoadError)
        self.assertIsInstance(caught.exception, ValueError)
        for other in KINDS:
            self.assertEqual(isinstance(caught.exception, other), other is kind)
        self.assertTrue(told == before)

    def test_functions_below_nought(self):
        for which in (-1, -2, -3, -4, -10 ** 5000):
            for given in ([], [1], [1, 2]):
                self.refused(CODE, which, given, NoFunction)

    def test_functions_just_beyond_the_last(self):
        for which in (3, 4, 10 ** 5000):
            for given in ([], [1], [1, 2]):
                self.refused(CODE, which, given, NoFunction)
        self.refused(([], [(0, 0)]), 1, [], NoFunction)

    def test_a_code_that_has_none(self):
        for which in (-1, 0, 1):
            for given in ([], [1]):
                self.refused(EMPTY, which, given, NoFunction)
                self.refused((CODE[0], []), which, given, NoFunction)

    def test_one_number_more_and_one_less(self):
        for which, (_, many) in enumerate(CODE[1]):
            self.refused(CODE, which, [5] * (many + 1), BadCount)
            if many:
                self.refused(CODE, which, [5] * (many - 1), BadCount)
            self.assertEqual(begun(CODE, which, [5] * many)[2], [(0, [5] * many)])

    def test_many_numbers(self):
        code = [], [(0, 8000)]
        self.refused(code, 0, [1] * 7999, BadCount)
        self.refused(code, 0, [1] * 8001, BadCount)
        self.refused(code, 0, [], BadCount)

    def test_a_count_of_any_size(self):
        self.refused(([], [(0, 10 ** 5000)]), 0, [1], BadCount)

    def test_counts_are_those_of_the_function_itself(self):
        self.refused(CODE, 0, [1, 2], BadCount)
        self.refused(CODE, 1, [1], BadCount)
        self.refused(CODE, 2, [1, 2], BadCount)

    def test_a_function_that_begins_where_no_row_is_may_be_run(self):
        self.assertEqual(walked(CODE, 2, [0], 5, 5), (("stuck",), [(4, 1, 0)]))


if __name__ == "__main__":
    unittest.main()
