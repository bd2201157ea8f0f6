"""Calls that a back row follows become jumps."""


def turned(code):
    """The turned code, of new lists."""
    rows, starts = code
    told = list(rows)
    for at in range(len(rows) - 1):
        if rows[at][0] == "call" and rows[at + 1][0] == "back":
            told[at] = ("jump", rows[at][1])
    return told, list(starts)
