"""Promise 5: what plain refuses, and which of several wrong things comes first."""

import copy
import unittest

from tailroad.errors import BadCount, NoFunction, RoadError, Unknown
from tailroad.rows import plain
from tests.samples import ONE, TWO, WRAPPERS, Grower, calling, wrapped

# Wrong in any program in which function 0 takes two numbers and there is no function 9.
NO_ARG = ("arg", -1)
NO_FUNCTION = calling(9)
BAD_COUNT = ("call", 0, [ONE])
WRONG = ((NO_ARG, Unknown), (NO_FUNCTION, NoFunction), (BAD_COUNT, BadCount))

# The places of parts that are reckoned with one more number known.
BEHIND_LET = ("let, second",)


def faults(tree, known, counts, path):
    """Each wrong thing of a tree with the way to it; a tree's way leads its parts' ones."""
    word, *rest = tree
    if word == "arg" and rest[0] not in range(known):
        yield path, Unknown
    if word == "call":
        which, rest = rest
        if which not in range(len(counts)):
            yield path + (0,), NoFunction
        elif len(rest) != counts[which]:
            yield path + (0,), BadCount
    if word not in ("num", "arg"):
        for at, part in enumerate(rest):
            more = 1 if word == "let" and at == 1 else 0
            yield from faults(part, known + more, counts, path + (1 + at,))


def first_fault(program):
    counts = [many for many, _ in program]
    found = []
    for at, (many, tree) in enumerate(program):
        found.extend(faults(tree, many, counts, (at,)))
    return min(found, key=lambda fault: fault[0])[1] if found else None


class RefusalCase(unittest.TestCase):
    def refused(self, program, kind, said=None):
        with self.assertRaises(RoadError, msg=said) as caught:
            plain(program)
        self.assertIs(type(caught.exception), kind, said)

    def refused_tree(self, tree, kind, said=None):
        """The tree stands in a function 0 that takes two numbers."""
        self.refused([(2, tree), (0, ONE)], kind, said)


class TestUnknown(RefusalCase):
    def test_below_nought(self):
        for many in (0, 1, 3):
            self.refused([(many, ("arg", -1))], Unknown)

    def test_just_beyond_what_is_known(self):
        for many in (0, 1, 3):
            self.refused([(many, ("arg", many))], Unknown)
            self.refused([(many, ("sub", ONE, ("arg", many + 1)))], Unknown)

    def test_the_last_known_number_is_taken(self):
        for many in (1, 2, 30):
            self.assertEqual(plain([(many, ("arg", many - 1))])[1], [(0, many)])

    def test_places_of_any_size(self):
        self.refused([(1, ("arg", 10 ** 5000))], Unknown)
        self.refused([(1, ("arg", -10 ** 5000))], Unknown)

    def test_let_knows_one_more_in_its_second_part_alone(self):
        for many in (0, 1, 3):
            last = ("arg", many)
            plain([(many, ("let", ONE, last))])
            self.refused([(many, ("let", last, ONE))], Unknown)
            self.refused([(many, ("let", ONE, ("arg", many + 1)))], Unknown)
            self.refused([(many, ("let", ONE, ("arg", -1)))], Unknown)

    def test_nothing_more_is_known_behind_a_let(self):
        for word in ("add", "sub", "less"):
            self.refused([(1, (word, ("let", ONE, TWO), ("arg", 1)))], Unknown)
        self.refused([(1, ("pick", ("let", ONE, ("arg", 1)), ("arg", 1), ONE))], Unknown)
        self.refused([(1, ("call", 0, [("let", ONE, ("arg", 1))])), (0, ("arg", 0))], Unknown)

    def test_lets_within_lets(self):
        plain([(1, ("let", ONE, ("let", ("arg", 1), ("arg", 2))))])
        self.refused([(1, ("let", ONE, ("let", ("arg", 2), ONE)))], Unknown)
        self.refused([(1, ("let", ONE, ("let", ONE, ("arg", 3))))], Unknown)
        plain([(1, ("let", ("let", ONE, ("arg", 1)), ("arg", 1)))])
        self.refused([(1, ("let", ("let", ONE, ("arg", 2)), ONE))], Unknown)
        self.refused([(1, ("let", ("let", ONE, TWO), ("arg", 2)))], Unknown)

    def test_args_are_looked_at_with_what_the_caller_knows(self):
        plain([(3, ("call", 1, [("arg", 2)])), (1, ONE)])
        self.refused([(1, ("call", 1, [ONE, TWO, ("arg", 1)])), (3, ONE)], Unknown)
        plain([(0, ("let", ONE, ("call", 1, [("arg", 0)]))), (1, ONE)])

    def test_in_each_kind(self):
        for name in WRAPPERS:
            beyond = 3 if name in BEHIND_LET else 2
            self.refused_tree(WRAPPERS[name](("arg", beyond)), Unknown, name)
            self.refused_tree(WRAPPERS[name](("arg", -1)), Unknown, name)
            plain([(2, WRAPPERS[name](("arg", beyond - 1)))])

    def test_forty_deep_and_somewhat_more(self):
        for depth in (39, 40, 100):
            for name in WRAPPERS:
                beyond = 2 + depth if name in BEHIND_LET else 2
                plain([(2, wrapped(("arg", beyond - 1), name, depth))])
                self.refused([(2, wrapped(("arg", beyond), name, depth))], Unknown)


class TestNoFunction(RefusalCase):
    def test_below_nought(self):
        for functions in (1, 2, 5):
            self.refused([(0, calling(-1))] + [(0, ONE)] * (functions - 1), NoFunction)

    def test_just_beyond_the_last(self):
        for functions in (1, 2, 5):
            self.refused([(0, calling(functions))] + [(0, ONE)] * (functions - 1), NoFunction)
            plain([(0, calling(functions - 1))] + [(0, ONE)] * (functions - 1))

    def test_places_of_any_size(self):
        self.refused([(0, calling(10 ** 5000))], NoFunction)
        self.refused([(0, calling(-10 ** 5000))], NoFunction)

    def test_in_each_kind(self):
        for name in WRAPPERS:
            self.refused_tree(WRAPPERS[name](NO_FUNCTION), NoFunction, name)
            self.refused_tree(WRAPPERS[name](calling(-1)), NoFunction, name)
            self.refused_tree(WRAPPERS[name](calling(2)), NoFunction, name)

    def test_ahead_of_the_count(self):
        for args in ([], [ONE], [ONE, TWO, ONE]):
            self.refused_tree(("call", 2, args), NoFunction)
            self.refused_tree(("call", -1, args), NoFunction)

    def test_a_function_further_on_may_be_called(self):
        self.assertEqual(plain([(0, calling(1)), (0, ONE)])[0][0], ("call", 1))


class TestBadCount(RefusalCase):
    def test_one_more_and_one_less(self):
        for many in (1, 2, 5):
            for args in (many - 1, many + 1):
                tree = ("call", 0, [ONE] * args)
                self.refused([(many, tree)], BadCount)
            plain([(many, ("call", 0, [ONE] * many))])

    def test_function_that_takes_none(self):
        self.refused([(0, ("call", 0, [ONE]))], BadCount)
        plain([(0, calling(0))])

    def test_counts_are_those_of_the_called_function(self):
        program = [(1, ONE), (2, ("call", 0, [ONE]))]
        plain(program)
        self.refused([(1, ONE), (2, ("call", 0, [ONE, TWO]))], BadCount)
        self.refused([(3, ("call", 1, [ONE] * 3)), (2, ONE)], BadCount)

    def test_a_count_of_any_size(self):
        self.refused([(0, calling(1)), (10 ** 5000, ONE)], BadCount)

    def test_in_each_kind(self):
        for name in WRAPPERS:
            self.refused_tree(WRAPPERS[name](BAD_COUNT), BadCount, name)
            self.refused_tree(WRAPPERS[name](("call", 1, [ONE])), BadCount, name)

    def test_many_args(self):
        self.refused([(8000, ("call", 0, [ONE] * 7999))], BadCount)
        self.refused([(8000, ("call", 0, [ONE] * 8001))], BadCount)


class TestOrder(RefusalCase):
    def test_parts_from_the_left(self):
        for left, kind in WRONG:
            for right, _ in WRONG:
                for tree in (("add", left, right), ("sub", left, right), ("less", left, right),
                             ("let", left, right), ("pick", left, right, ONE),
                             ("pick", left, ONE, right), ("pick", ONE, left, right),
                             ("call", 0, [left, right])):
                    self.refused_tree(tree, kind, tree)

    def test_all_of_a_part_ahead_of_the_next_part(self):
        for deep, kind in WRONG:
            for shallow, _ in WRONG:
                for name in WRAPPERS:
                    inner = WRAPPERS[name](deep)
                    self.refused_tree(("sub", inner, shallow), kind, name)
                    self.refused_tree(("let", inner, shallow), kind, name)
                    self.refused_tree(("call", 0, [inner, shallow]), kind, name)

    def test_a_tree_ahead_of_its_parts(self):
        for part, _ in WRONG:
            self.refused_tree(("call", 0, [part]), BadCount)
            self.refused_tree(("call", 0, [ONE, ONE, part]), BadCount)
            self.refused_tree(("call", 1, [part]), BadCount)
            self.refused_tree(("call", 2, [part]), NoFunction)
            self.refused_tree(("call", -1, [part, part]), NoFunction)

    def test_function_by_function(self):
        for first, kind in WRONG:
            for second, _ in WRONG:
                self.refused([(2, first), (2, second)], kind)
                self.refused([(2, ONE), (2, first), (2, second)], kind)
                self.refused([(2, wrapped(first, "add, right", 30)), (2, second)], kind)

    def test_a_wrong_thing_in_the_last_function(self):
        for tree, kind in WRONG:
            self.refused([(2, ONE), (0, ONE), (2, tree)], kind)

    def test_grown_programs(self):
        told = {None: 0, Unknown: 0, NoFunction: 0, BadCount: 0}
        for seed in range(600):
            program = Grower(seed).program(4, 3, wrong=8)
            kind = first_fault(program)
            told[kind] += 1
            if kind is None:
                plain(program)
            else:
                self.refused(program, kind, program)
        self.assertTrue(all(count > 20 for count in told.values()), told)


class TestNothingIsChanged(RefusalCase):
    def test_refused_program_stays(self):
        for wrong, kind in WRONG:
            program = [(2, ("let", ("call", 0, [ONE, ("call", 1, [])]), wrong)), (0, ONE)]
            before = copy.deepcopy(program)
            self.refused(program, kind)
            self.refused(program, kind)
            self.assertEqual(program, before)

    def test_a_refusal_does_not_spoil_a_later_answer(self):
        self.refused_tree(NO_FUNCTION, NoFunction)
        self.assertEqual(plain([(0, ONE)]), ([("num", 1), ("back",)], [(0, 0)]))


if __name__ == "__main__":
    unittest.main()
