"""Reads the rows of a tree back to the tree, the other way round than they are made."""


def inner_tree(rows, counts):
    """The tree whose inner rows these are; counts tells how many args calls have."""
    values, at = [], 0
    while at < len(rows):
        at = read_row(rows, at, values, counts)
    (tree,) = values
    return tree


def read_row(rows, at, values, counts):
    """Do the row at a place over trees in the stead of numbers; the next place."""
    word, *rest = rows[at]
    if word in ("num", "arg"):
        values.append(rows[at])
    elif word in ("add", "sub", "less"):
        values[-2:] = [(word, values[-2], values[-1])]
    elif word == "sure":
        values[-1:] = [(word, values[-1])]
    elif word == "call":
        first = len(values) - counts[rest[0]]
        values[first:] = [(word, rest[0], values[first:])]
    elif word == "keep":
        end = let_end(rows, at)
        values[-1:] = [("let", values[-1], inner_tree(rows[at + 1:end], counts))]
        return end + 1
    elif word == "unless":
        skip = at + rest[0]
        assert rows[skip][0] == "skip", rows[skip]
        end = skip + 1 + rows[skip][1]
        yes = inner_tree(rows[at + 1:skip], counts)
        other = inner_tree(rows[skip + 1:end], counts)
        values[-1:] = [("pick", values[-1], yes, other)]
        return end
    else:
        raise AssertionError(rows[at])
    return at + 1


def let_end(rows, at):
    """The place of the drop row that belongs to the keep row at a place."""
    deep = 0
    for place in range(at, len(rows)):
        deep += {("keep",): 1, ("drop",): -1}.get(rows[place], 0)
        if deep == 0:
            return place
    raise AssertionError("no drop")


def last_tree(rows, counts):
    """The tree whose last rows these are."""
    values, at = [], 0
    while rows[at] != ("back",):
        word, *rest = rows[at]
        if word == "keep" and not has_drop(rows, at):
            (first,) = values
            return ("let", first, last_tree(rows[at + 1:], counts))
        if word == "unless" and is_last_pick(rows, at):
            (asked,) = values
            other = at + 1 + rest[0]
            yes = last_tree(rows[at + 1:other], counts)
            return ("pick", asked, yes, last_tree(rows[other:], counts))
        at = read_row(rows, at, values, counts)
    assert at == len(rows) - 1, "rows behind the last one"
    (tree,) = values
    return tree


def has_drop(rows, at):
    """Whether the let of a keep row ends ahead of the first back row."""
    deep = 0
    for row in rows[at:]:
        deep += {("keep",): 1, ("drop",): -1}.get(row, 0)
        if deep == 0 or row == ("back",):
            break
    return deep == 0


def is_last_pick(rows, at):
    """Whether the second part of an unless row's pick ends with back, not with skip."""
    return rows[at + rows[at][1]] == ("back",)
