"""What is wrong with a program is refused before rows are made of it."""

from tailroad.errors import BadCount, NoFunction, Unknown
from tailroad.trees import parts


def check_program(program):
    """Refuse the first thing that is wrong, function by function."""
    for many, tree in program:
        check_tree(tree, many, program)


def check_tree(tree, known, program):
    """Refuse the first thing that is wrong: the tree ahead of its parts."""
    word = tree[0]
    if word == "arg":
        check_arg(tree[1], known)
    if word == "call":
        check_call(tree[1], tree[2], program)
    if word == "let":
        check_tree(tree[1], known, program)
        check_tree(tree[2], known + 1, program)
        return
    for part in parts(tree):
        check_tree(part, known, program)


# The messages name no number: Python does not write out numbers of any size.


def check_arg(place, known):
    """Refuse a place where none of so many known numbers stands."""
    if place < 0 or place >= known:
        raise Unknown("an arg at a place where no number is known")


def check_call(which, args, program):
    """Refuse a call that does not fit the functions of the program."""
    if which < 0 or which >= len(program):
        raise NoFunction("a call of a function that the program has not")
    if len(args) != program[which][0]:
        raise BadCount("a call with other than as many args as the function has numbers")
