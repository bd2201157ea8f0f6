"""The rows that a program becomes."""

from tailroad.checks import check_program
from tailroad.trees import LEAVES, parts


def plain(program):
    """The plain code of a program, of new lists; what is wrong is refused."""
    check_program(program)
    rows = []
    starts = []
    for many, tree in program:
        starts.append((len(rows), many))
        rows.extend(last_rows(tree))
    return rows, starts


def last_rows(tree):
    """The rows of a tree that stands in last place."""
    word = tree[0]
    if word == "let":
        return inner_rows(tree[1]) + [("keep",)] + last_rows(tree[2])
    if word == "pick":
        return last_pick(inner_rows(tree[1]), last_rows(tree[2]), last_rows(tree[3]))
    return inner_rows(tree) + [("back",)]


def inner_rows(tree):
    """The rows of a tree that stands anywhere else."""
    word = tree[0]
    if word in LEAVES:
        return [tree]
    if word == "let":
        return inner_rows(tree[1]) + [("keep",)] + inner_rows(tree[2]) + [("drop",)]
    if word == "pick":
        return inner_pick(inner_rows(tree[1]), inner_rows(tree[2]), inner_rows(tree[3]))
    rows = []
    for part in parts(tree):
        rows.extend(inner_rows(part))
    rows.append(("call", tree[1]) if word == "call" else (word,))
    return rows


def inner_pick(a, b, c):
    """The inner rows of a pick, made of those of its parts."""
    # One more than b has: the skip behind b is passed over as well.
    return a + [("unless", len(b) + 1)] + b + [("skip", len(c))] + c


def last_pick(a, b, c):
    """The last rows of a pick; b's never go on to c's, so no skip is due."""
    return a + [("unless", len(b))] + b + c
