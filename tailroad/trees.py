"""Trees: their parts, and the calls that stand in them."""

LEAVES = ("num", "arg")


def parts(tree):
    """The trees that a tree is directly made of, from the left, in a new list."""
    word = tree[0]
    if word in LEAVES:
        return []
    if word == "call":
        return list(tree[2])
    return list(tree[1:])


def last_parts(tree):
    """Those parts of a tree that stand in last place where the tree does."""
    word = tree[0]
    if word == "pick":
        return [tree[2], tree[3]]
    if word == "let":
        return [tree[2]]
    return []


def all_calls(tree):
    """How many calls a tree has, those within args too."""
    calls = 1 if tree[0] == "call" else 0
    for part in parts(tree):
        calls += all_calls(part)
    return calls


def last_calls(tree):
    """How many calls stand in last place in a function's whole tree."""
    calls = 1 if tree[0] == "call" else 0
    for part in last_parts(tree):
        calls += last_calls(part)
    return calls
