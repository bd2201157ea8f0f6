"""Trees, programs and codes that several tests share."""

from random import Random

ONE = ("num", 1)
TWO = ("num", 2)
THREE = ("num", 3)

# A tree of each kind that has one more tree in it, by the part that it has it at.
WRAPPERS = {
    "add, left": lambda tree: ("add", tree, ONE),
    "add, right": lambda tree: ("add", ONE, tree),
    "sub, left": lambda tree: ("sub", tree, ONE),
    "sub, right": lambda tree: ("sub", ONE, tree),
    "less, left": lambda tree: ("less", tree, ONE),
    "less, right": lambda tree: ("less", ONE, tree),
    "sure": lambda tree: ("sure", tree),
    "pick, asked": lambda tree: ("pick", tree, ONE, TWO),
    "pick, second": lambda tree: ("pick", ONE, tree, TWO),
    "pick, third": lambda tree: ("pick", ONE, TWO, tree),
    "let, first": lambda tree: ("let", tree, ONE),
    "let, second": lambda tree: ("let", ONE, tree),
    "call, first": lambda tree: ("call", 0, [tree, ONE]),
    "call, second": lambda tree: ("call", 0, [ONE, tree]),
}

# The words of rows; those that make runs go on for a while stand more than once.
ROW_WORDS = (
    "num", "num", "num", "num", "num", "num", "arg", "add", "sub", "less", "sure", "sure",
    "keep", "drop", "unless", "skip", "call", "call", "call", "jump", "back", "back",
)

LAST_PLACES = ("pick, second", "pick, third", "let, second")


def wrapped(tree, name, times):
    """The tree within so many trees of one kind."""
    for _ in range(times):
        tree = WRAPPERS[name](tree)
    return tree


def calling(which):
    """A call without args."""
    return ("call", which, [])


class Grower:
    """Grows trees, programs and codes; the same number grows the same ones."""

    def __init__(self, seed):
        self.chance = Random(seed)

    def tree(self, depth, known, counts, wrong=0):
        """A tree over functions that take so many numbers.

        In about `wrong` of a hundred args and calls something is wrong.
        """
        words = ["num", "arg"] if known or wrong else ["num"]
        if depth > 1:
            words += ["add", "sub", "less", "sure", "pick", "let", "call", "call"]
        word = self.chance.choice(words)
        return getattr(self, "grow_" + word)(depth, known, counts, wrong)

    def program(self, depth, functions, wrong=0):
        counts = [self.chance.randrange(4) for _ in range(functions)]
        return [(many, self.tree(depth, many, counts, wrong)) for many in counts]

    def is_wrong(self, wrong):
        return self.chance.randrange(100) < wrong

    def grow_num(self, depth, known, counts, wrong):
        return ("num", self.chance.randrange(-9, 10))

    def grow_arg(self, depth, known, counts, wrong):
        if not known or self.is_wrong(wrong):
            return ("arg", self.chance.choice([-1, known]))
        return ("arg", self.chance.randrange(known))

    def grow_add(self, depth, known, counts, wrong):
        return ("add", *self.grow_many(2, depth, known, counts, wrong))

    def grow_sub(self, depth, known, counts, wrong):
        return ("sub", *self.grow_many(2, depth, known, counts, wrong))

    def grow_less(self, depth, known, counts, wrong):
        return ("less", *self.grow_many(2, depth, known, counts, wrong))

    def grow_sure(self, depth, known, counts, wrong):
        return ("sure", *self.grow_many(1, depth, known, counts, wrong))

    def grow_pick(self, depth, known, counts, wrong):
        return ("pick", *self.grow_many(3, depth, known, counts, wrong))

    def grow_let(self, depth, known, counts, wrong):
        first = self.tree(depth - 1, known, counts, wrong)
        return ("let", first, self.tree(depth - 1, known + 1, counts, wrong))

    def grow_call(self, depth, known, counts, wrong):
        which = self.chance.randrange(len(counts))
        many = counts[which]
        if self.is_wrong(wrong):
            which = self.chance.choice([-1, len(counts)])
        elif self.is_wrong(wrong):
            many += self.chance.choice([-1, 1]) if many else 1
        return ("call", which, self.grow_many(many, depth, known, counts, wrong))

    def grow_many(self, many, depth, known, counts, wrong):
        return [self.tree(depth - 1, known, counts, wrong) for _ in range(many)]

    def code(self, rows, functions):
        """A code that no program was made into: rows and starts as chance has them."""
        told = []
        while len(told) < rows:
            told.append(self.row(rows, functions))
            if told[-1][0] == "call" and self.chance.randrange(2):
                told.append(("back",))
        return told[:rows], self.starts(rows, functions)

    def starts(self, rows, functions):
        # Now and then a function begins just behind the rows.
        return [(self.chance.randrange(rows + 1), self.chance.choice([0, 0, 1, 2]))
                for _ in range(functions)]

    def row(self, rows, functions):
        word = self.chance.choice(ROW_WORDS)
        if word == "num":
            return (word, self.chance.randrange(-2, 3))
        if word == "arg":
            return (word, self.chance.randrange(2))
        if word in ("unless", "skip"):
            return (word, self.chance.randrange(min(rows, 4)))
        if word in ("call", "jump"):
            # Now and then a function that the code has not.
            at = self.chance.randrange(8 * functions + 1)
            return (word, at % functions if at < 8 * functions else functions)
        return (word,)
