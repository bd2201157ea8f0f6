"""Promise 16: rows are written as texts, and texts are read to rows."""

import unittest

from tailroad.errors import BadCount, NoFunction, NoRow, RoadError, Unknown
from tailroad.notes import read, shown

BARE = ("add", "sub", "less", "sure", "keep", "drop", "back")
NUMBERED = ("num", "arg", "unless", "skip", "call", "jump")
SEVENTY = int("9" * 70)
TEXTS = (
    (("num", 5), "num 5"), (("num", -5), "num -5"), (("num", 0), "num 0"),
    (("num", -10), "num -10"), (("arg", 0), "arg 0"), (("arg", 12), "arg 12"),
    (("add",), "add"), (("sub",), "sub"), (("less",), "less"), (("sure",), "sure"),
    (("keep",), "keep"), (("drop",), "drop"), (("unless", 3), "unless 3"),
    (("skip", 0), "skip 0"), (("call", 7), "call 7"), (("jump", 100), "jump 100"),
    (("back",), "back"),
)


class TestBothWays(unittest.TestCase):
    def test_each_of_the_thirteen_words(self):
        self.assertEqual({row[0] for row, _ in TEXTS}, {*BARE, *NUMBERED})
        for row, text in TEXTS:
            self.assertEqual(shown(row), text)
            self.assertEqual(read(text), row)

    def test_numbers(self):
        for word in NUMBERED:
            for n in (0, 1, 9, 10, 90, 100, 1020, 1234567890, SEVENTY - 1, SEVENTY):
                self.assertEqual(shown((word, n)), word + " " + str(n))
                self.assertEqual(read(word + " " + str(n)), (word, n))

    def test_numbers_below_nought(self):
        for n in (1, 9, 10, 100, 1234567890, SEVENTY):
            self.assertEqual(shown(("num", -n)), "num -" + str(n))
            self.assertEqual(read("num -" + str(n)), ("num", -n))

    def test_somewhat_more_than_seventy_figures(self):
        for word in NUMBERED:
            for many in (71, 200, 1000):
                text = word + " " + "7" * many
                self.assertEqual(read(text), (word, int("7" * many)))
                self.assertEqual(shown(read(text)), text)

    def test_kinds_of_values(self):
        for row, text in TEXTS:
            self.assertIs(type(shown(row)), str)
            self.assertIs(type(read(text)), tuple)
            self.assertEqual([type(part) for part in read(text)], [str, int][:len(row)])


class TestRefused(unittest.TestCase):
    def refused(self, *texts):
        for text in texts:
            with self.assertRaises(NoRow, msg=repr(text)) as caught:
                read(text)
            self.assertIs(type(caught.exception), NoRow)

    def test_the_empty_line(self):
        self.refused("")

    def test_blanks_alone(self):
        self.refused(" ", "  ", "\n", "\t")

    def test_other_words(self):
        self.refused("mul", "mul 1", "value 1", "pick", "let", "nought", "adds", "ad", "nums 1",
                     "nu 1", "x", "#", "callback", "unless1", "add,", "(add)", "None")

    def test_capitals(self):
        self.refused("Add", "ADD", "Num 1", "NUM 1", "bacK")

    def test_words_run_together(self):
        self.refused("add sub", "addsub", "add add", "num 1 add", "num 1 num 2", "num num",
                     "arg arg 0", "call jump", "num add")

    def test_a_word_alone_where_a_number_is_due(self):
        for word in NUMBERED:
            self.refused(word, word + " ", word + "  ", word + "\n")

    def test_a_number_where_none_is_due(self):
        for word in BARE:
            self.refused(word + " 0", word + " 1", word + "0", word + "1", word + " -1")

    def test_a_number_alone(self):
        self.refused("0", "5", "-5", " 5")

    def test_two_numbers(self):
        for word in NUMBERED:
            self.refused(word + " 1 2", word + " 0 0", word + " 1,2", word + " 1 ")

    def test_noughts_ahead(self):
        for word in NUMBERED:
            self.refused(word + " 00", word + " 01", word + " 007", word + " 0000000000")
        self.refused("num -01", "num -00", "num -007")

    def test_nought_alone_and_within(self):
        for word in NUMBERED:
            self.assertEqual(read(word + " 0"), (word, 0))
            self.assertEqual(read(word + " 1001"), (word, 1001))

    def test_a_minus_stands_at_num_alone(self):
        for word in NUMBERED[1:]:
            self.refused(word + " -1", word + " -12", word + " -0")

    def test_minus_nought(self):
        self.refused(*[word + " -0" for word in NUMBERED])

    def test_a_minus_elsewhere(self):
        self.refused("num -", "num --1", "num --", "num 1-", "num 1-2", "num - 1", "num -1-",
                     "num-1", "num -+1", "-num 1", "num -1 ", "num  -1", "add -", "add-")

    def test_other_minus_signs(self):
        self.refused("num \u22125", "num \u20135", "num \uff0d5", "num ~5")

    def test_a_plus(self):
        for word in NUMBERED:
            self.refused(word + " +1", word + " +0", word + " 1+1", word + "+1", word + " +")

    def test_blanks_ahead_behind_doubled_and_missing(self):
        for word in NUMBERED:
            self.refused(" " + word + " 1", word + " 1 ", word + "  1", word + "1",
                         "  " + word + " 1", word + " 1  ", word + " 1 1")
        for word in BARE:
            self.refused(" " + word, word + " ", "  " + word, word + "  ",
                         word[0] + " " + word[1:])

    def test_other_white_space_and_line_ends(self):
        for space in ("\t", "\n", "\r", "\r\n", "\v", "\f", "\0", "\x1c", "\x85", "\u00a0",
                      "\u2003", "\u2028", "\u3000", "\ufeff", "\u200b"):
            for word in NUMBERED:
                self.refused(word + space + "1", space + word + " 1", word + " 1" + space,
                             word + " " + space + "1", word + space + " 1", word + " 1" + space + "1")
            for word in BARE:
                self.refused(space + word, word + space, word + space + "1")

    def test_figures_of_other_scripts(self):
        for figure in ("\u0663", "\u06f3", "\u0969", "\uff13", "\u00b2", "\u00bd", "\u2460",
                       "\u2163", "\u4e09", "\U0001d7d1"):
            for word in NUMBERED:
                self.refused(word + " " + figure, word + " 1" + figure, word + " " + figure + "1",
                             word + " 1" + figure + "1")
            self.refused("num -" + figure, "num -1" + figure)

    def test_other_ways_to_write_numbers(self):
        for word in NUMBERED:
            self.refused(word + " 1_0", word + " 0x1", word + " 1e3", word + " 1.0", word + " 1.",
                         word + " .5", word + " 1L", word + " 0b1", word + " one", word + " n",
                         word + " '1'", word + " (1)", word + " 1/1", word + " 1:", word + " True")

    def test_signs_beside_the_figures(self):
        # The signs just ahead of 0 and just behind 9.
        for word in NUMBERED:
            self.refused(word + " /", word + " :", word + " 1/", word + " :1")

    def test_letters_that_look_alike(self):
        self.refused("\u0430dd", "\uff41dd", "num \u04e8", "num O", "num l")

    def test_none_of_the_other_refusals(self):
        for text in ("", "mul", "num", "add 1", "arg -1"):
            with self.assertRaises(RoadError) as caught:
                read(text)
            self.assertIsInstance(caught.exception, ValueError)
            self.assertNotIsInstance(caught.exception, (NoFunction, BadCount, Unknown))

    def test_what_is_read_writes_just_that_text(self):
        signs = ("", " ", "-", "0", "1", "num", "arg", "add", "back", "\n")
        read_back = 0
        for a in signs:
            for b in signs:
                for c in signs:
                    for d in signs:
                        read_back += self.is_read_back(a + b + c + d)
        self.assertGreater(read_back, 20)

    def is_read_back(self, text):
        try:
            row = read(text)
        except NoRow:
            return False
        self.assertEqual(shown(row), text)
        return True


if __name__ == "__main__":
    unittest.main()
