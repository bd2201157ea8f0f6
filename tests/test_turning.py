"""Promise 10: calls that a back row follows become jumps."""

import copy
import unittest

from tailroad.rows import plain
from tailroad.turning import turned
from tests.samples import ONE, WRAPPERS, LAST_PLACES, Grower, calling

BACK = ("back",)
OTHERS = (
    ("num", 1), ("arg", 1), ("add",), ("sub",), ("less",), ("sure",), ("keep",), ("drop",),
    ("unless", 1), ("skip", 1), ("call", 1), ("jump", 1),
)


def turned_rows(rows):
    return turned((rows, []))[0]


class TestTurned(unittest.TestCase):
    def test_call_ahead_of_back(self):
        self.assertEqual(turned_rows([("call", 0), BACK]), [("jump", 0), BACK])
        self.assertEqual(turned_rows([("call", 7), BACK]), [("jump", 7), BACK])

    def test_codes_without_rows(self):
        self.assertEqual(turned(([], [])), ([], []))
        self.assertEqual(turned(([], [(0, 0), (3, 2)])), ([], [(0, 0), (3, 2)]))

    def test_call_as_the_last_row_of_all(self):
        self.assertEqual(turned_rows([("call", 0)]), [("call", 0)])
        self.assertEqual(turned_rows([BACK, ("call", 0)]), [BACK, ("call", 0)])

    def test_call_behind_back(self):
        rows = [BACK, ("call", 0), ONE]
        self.assertEqual(turned_rows(rows), rows)

    def test_two_calls_ahead_of_one_back(self):
        rows = [("call", 0), ("call", 1), BACK]
        self.assertEqual(turned_rows(rows), [("call", 0), ("jump", 1), BACK])

    def test_two_backs_behind_one_call(self):
        self.assertEqual(turned_rows([("call", 0), BACK, BACK]), [("jump", 0), BACK, BACK])

    def test_several_calls(self):
        rows = [("call", 2), BACK, ("call", 0), ("drop",), ("call", 1), BACK, ("call", 1)]
        self.assertEqual(turned_rows(rows), [
            ("jump", 2), BACK, ("call", 0), ("drop",), ("jump", 1), BACK, ("call", 1),
        ])

    def test_jumps_that_are_there_already(self):
        rows = [("jump", 0), BACK, ("call", 1), ("jump", 2), ("jump", 3)]
        self.assertEqual(turned_rows(rows), rows)

    def test_turned_again_stays(self):
        once = turned(([("call", 0), BACK, ("call", 0)], [(0, 0)]))
        self.assertEqual(turned(once), once)

    def test_call_ahead_of_each_other_row(self):
        for row in OTHERS:
            rows = [("call", 0), row]
            self.assertEqual(turned_rows(rows), rows)

    def test_each_other_row_ahead_of_back(self):
        for row in OTHERS:
            if row[0] != "call":
                self.assertEqual(turned_rows([row, BACK]), [row, BACK])

    def test_call_that_skips_lead_over(self):
        rows = [("skip", 1), ("call", 0), BACK]
        self.assertEqual(turned_rows(rows), [("skip", 1), ("jump", 0), BACK])

    def test_back_where_a_skip_leads_is_not_the_next_row(self):
        rows = [("call", 0), ("skip", 0), BACK]
        self.assertEqual(turned_rows(rows), rows)

    def test_back_that_another_function_begins_with(self):
        code = [("call", 1), BACK], [(0, 0), (1, 0)]
        self.assertEqual(turned(code), ([("jump", 1), BACK], [(0, 0), (1, 0)]))

    def test_starts_that_are_not_at_first_rows(self):
        for starts in ([(1, 0)], [(2, 0)], [(99, 5), (1, 1), (1, 0)], [(-1, 0)]):
            code = [("call", 0), BACK], starts
            self.assertEqual(turned(code), ([("jump", 0), BACK], starts))

    def test_functions_that_the_code_has_not(self):
        self.assertEqual(turned(([("call", 9), BACK], [])), ([("jump", 9), BACK], []))

    def test_kinds_of_values(self):
        code = turned(([("call", 0), BACK], [(0, 0)]))
        self.assertIs(type(code), tuple)
        self.assertEqual([type(part) for part in code], [list, list])
        for pair in code[0] + code[1]:
            self.assertIs(type(pair), tuple)

    def test_many_rows(self):
        rows = turned_rows([("call", 3), BACK] * 8000)
        self.assertTrue(rows == [("jump", 3), BACK] * 8000)

    def test_calls_in_last_place_of_plain_code(self):
        for name in WRAPPERS:
            rows, _ = turned(plain([(2, WRAPPERS[name](calling(1))), (0, ONE)]))
            self.assertEqual(("jump", 1) in rows, name in LAST_PLACES, name)
            self.assertEqual(("call", 1) in rows, name not in LAST_PLACES, name)

    def test_plain_code_of_grown_programs(self):
        for seed in range(60):
            rows, starts = plain(Grower(seed).program(5, 4))
            told = turned((rows, starts))
            self.assertEqual(told[1], starts)
            self.assertEqual(len(told[0]), len(rows))
            for at, row in enumerate(rows):
                is_turned = row[0] == "call" and rows[at + 1] == BACK
                self.assertEqual(told[0][at], ("jump", row[1]) if is_turned else row)


class TestNothingIsShared(unittest.TestCase):
    CODES = (
        ([], []),
        ([("num", 1), BACK], [(0, 0)]),
        ([("call", 0), BACK, ("call", 0), ("call", 0), BACK], [(0, 0), (2, 0)]),
    )

    def test_code_stays(self):
        for sample in self.CODES:
            code = copy.deepcopy(sample)
            turned(code)
            self.assertEqual(code, sample)

    def test_lists_are_new(self):
        for code in self.CODES:
            told, again = turned(code), turned(code)
            for part in (0, 1):
                self.assertIsNot(told[part], code[part])
                self.assertIsNot(told[part], again[part])

    def test_a_changed_answer_changes_neither_code_nor_later_answers(self):
        for sample in self.CODES:
            code = copy.deepcopy(sample)
            told = turned(code)
            before = copy.deepcopy(told)
            told[0].append("more")
            told[1].clear()
            self.assertEqual(code, sample)
            self.assertEqual(turned(code), before)


if __name__ == "__main__":
    unittest.main()
