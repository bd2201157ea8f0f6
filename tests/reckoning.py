"""Reckons trees as promise 2 tells, without rows: what machines are held against."""


class Nought(Exception):
    """All ends at a sure tree."""


class TooLong(Exception):
    """More trees are reckoned than were told."""


class Reckoner:
    """Reckons the functions of a program, so many trees of them at the most."""

    def __init__(self, program, most):
        self.program = program
        self.left = most

    def function(self, which, given):
        """How it ends: the tuple that the machine tells, or None where it takes too long."""
        try:
            return ("value", self.number(self.program[which][1], list(given)))
        except Nought:
            return ("nought",)
        except TooLong:
            return None

    def number(self, tree, known):
        self.left -= 1
        if self.left < 0:
            raise TooLong
        return getattr(self, "number_of_" + tree[0])(known, *tree[1:])

    def number_of_num(self, known, n):
        return n

    def number_of_arg(self, known, k):
        return known[k]

    def number_of_add(self, known, a, b):
        return self.number(a, known) + self.number(b, known)

    def number_of_sub(self, known, a, b):
        return self.number(a, known) - self.number(b, known)

    def number_of_less(self, known, a, b):
        return int(self.number(a, known) < self.number(b, known))

    def number_of_sure(self, known, a):
        n = self.number(a, known)
        if n == 0:
            raise Nought
        return n

    def number_of_pick(self, known, a, b, c):
        return self.number(b if self.number(a, known) else c, known)

    def number_of_let(self, known, a, b):
        return self.number(b, known + [self.number(a, known)])

    def number_of_call(self, known, which, args):
        given = [self.number(arg, known) for arg in args]
        return self.number(self.program[which][1], given)
