"""The machine: it does the rows of a code."""

from tailroad.errors import BadCount, NoFunction
from tailroad.plays import Play, do_row, end_at


def begun(code, which, given):
    """The state in which a run of a function begins, of new lists."""
    _, starts = code
    if which < 0 or which >= len(starts):
        raise NoFunction("a run of a function that the code has not")
    place, many = starts[which]
    if len(given) != many:
        raise BadCount("a run with other than as many numbers as the function takes")
    return place, [], [(0, list(given))]


def stepped(code, state, most):
    """The state behind the row at its place, or the tuple by which the run ends there."""
    play = Play(code, state, most)
    end = end_at(play)
    if end is not None:
        return end
    do_row(play)
    return play.state()


def run(code, which, given, steps, most):
    """The tuple by which a run of a function ends."""
    end, _ = walked(code, which, given, steps, most)
    return end


def walked(code, which, given, steps, most):
    """The tuple by which a run of a function ends, and the marks of its steps."""
    play = Play(code, begun(code, which, given), most)
    marks = []
    for _ in range(steps):
        marks.append(play.mark())
        end = end_at(play)
        if end is not None:
            return end, marks
        do_row(play)
    return ("dry",), marks
