"""A run under way: where it ends, and what each row does to it."""

# How many values a row takes or looks at, where its word alone tells that.
LEAST = {"add": 2, "sub": 2, "less": 2, "sure": 1, "keep": 1, "unless": 1}


class Play:
    """A run under way; its lists are its own, so that rows may change them."""

    def __init__(self, code, state, most):
        self.rows, self.starts = code
        self.place, values, frames = state
        self.numbers = list(values)
        self.frames = [(back, list(known)) for back, known in frames]
        self.most = most

    def known(self):
        """The numbers that the frame that counts knows."""
        return self.frames[-1][1]

    def state(self):
        """The state that the run is in, of the play's own lists."""
        return self.place, self.numbers, self.frames

    def mark(self):
        """The place, how many frames and how many values there are."""
        return self.place, len(self.frames), len(self.numbers)


def end_at(play):
    """The tuple by which the run ends at the row at its place, or None."""
    if is_stuck(play):
        return ("stuck",)
    word = play.rows[play.place][0]
    if word == "sure" and play.numbers[-1] == 0:
        return ("nought",)
    if word == "back" and len(play.frames) == 1:
        return ("value", play.numbers[-1])
    if word == "call" and len(play.frames) >= play.most:
        return ("full",)
    return None


def is_stuck(play):
    """Whether there is no row at the place, or it cannot be done."""
    if play.place < 0 or play.place >= len(play.rows):
        return True
    row = play.rows[play.place]
    word = row[0]
    if word == "arg":
        return row[1] < 0 or row[1] >= len(play.known())
    if word == "drop":
        return len(play.known()) == 0
    if word in ("call", "jump"):
        return lacks_call(play, row[1])
    if word == "back":
        return len(play.frames) == 1 and len(play.numbers) == 0
    return len(play.numbers) < LEAST.get(word, 0)


def lacks_call(play, which):
    """Whether the code has not that function, or too few values are there for it."""
    if which < 0 or which >= len(play.starts):
        return True
    return len(play.numbers) < play.starts[which][1]


def do_row(play):
    """Do the row at the place; the run does not end there."""
    row = play.rows[play.place]
    # Ahead of the row, so that skips count from behind it and calls go back there.
    play.place += 1
    action = ACTIONS_BY_WORD[row[0]]
    action(play, row)


def do_num(play, row):
    play.numbers.append(row[1])


def do_arg(play, row):
    play.numbers.append(play.known()[row[1]])


def last_two(play):
    """The last two values, which are taken."""
    b = play.numbers.pop()
    a = play.numbers.pop()
    return a, b


def do_add(play, row):
    a, b = last_two(play)
    play.numbers.append(a + b)


def do_sub(play, row):
    a, b = last_two(play)
    play.numbers.append(a - b)


def do_less(play, row):
    a, b = last_two(play)
    play.numbers.append(1 if a < b else 0)


def do_sure(play, row):
    """Nothing: that a run ends there is told by end_at."""


def do_keep(play, row):
    play.known().append(play.numbers.pop())


def do_drop(play, row):
    play.known().pop()


def do_unless(play, row):
    if play.numbers.pop() == 0:
        play.place += row[1]


def do_skip(play, row):
    play.place += row[1]


def do_call(play, row):
    play.frames.append((play.place, taken(play, row[1])))
    play.place = play.starts[row[1]][0]


def do_jump(play, row):
    back = play.frames[-1][0]
    play.frames[-1] = (back, taken(play, row[1]))
    play.place = play.starts[row[1]][0]


def taken(play, which):
    """The numbers that a function takes from the values' end, in their order."""
    first = len(play.numbers) - play.starts[which][1]
    given = play.numbers[first:]
    del play.numbers[first:]
    return given


def do_back(play, row):
    play.place = play.frames.pop()[0]


ACTIONS_BY_WORD = {
    "num": do_num,
    "arg": do_arg,
    "add": do_add,
    "sub": do_sub,
    "less": do_less,
    "sure": do_sure,
    "keep": do_keep,
    "drop": do_drop,
    "unless": do_unless,
    "skip": do_skip,
    "call": do_call,
    "jump": do_jump,
    "back": do_back,
}
