"""Rows are written as texts, and texts are read to rows."""

from tailroad.errors import NoRow

BARE = ("add", "sub", "less", "sure", "keep", "drop", "back")
NUMBERED = ("num", "arg", "unless", "skip", "call", "jump")
# Written out, since Python takes the figures of other scripts for digits, too.
FIGURES = "0123456789"


def shown(row):
    """The text that writes a row."""
    if row[0] in BARE:
        return row[0]
    return f"{row[0]} {row[1]}"


def read(line):
    """The row that a text writes; a text that writes none is refused."""
    if line in BARE:
        return (line,)
    word, _, written = line.partition(" ")
    if word not in NUMBERED:
        raise NoRow("neither a word that stands alone nor one with a number")
    if not is_number(word, written):
        raise NoRow("no number of the row, written as such numbers are")
    return word, int(written)


def is_number(word, written):
    """Whether a text writes a number that may stand at a word."""
    if word == "num" and written.startswith("-"):
        return written != "-0" and is_whole(written[1:])
    return is_whole(written)


def is_whole(written):
    """Whether a text writes a number in figures, without noughts ahead."""
    if written == "" or (written[0] == "0" and written != "0"):
        return False
    return all(figure in FIGURES for figure in written)
