"""What the steps make of code, where their claims hold."""

from tapline.code import following
from tapline.known_values import known_written

SKIP = ("skip",)
# The rows of these words do nothing but write a register; an op does so only with the signs below.
ONLY_WRITING = (
    "const", "view", "arg", "reg", "get", "global", "thread", "array",
    "compare", "minus", "not", "len", "sub", "text",
)
WITHOUT_FAULT = ("+", "-", "*")


def changed(code, step):
    """The code that a step makes of code, or None if the step does not fit its row.

    The step has the form of one, names a row of the code, and its claim holds.
    """
    r = step[1]
    if step[0] == "squeeze":
        return squeezed(code, r)
    row = new_row(code, step[0], r, step[2])
    if row is None:
        return None
    kinds, rows = code
    return kinds, rows[:r] + (row,) + rows[r + 1:]


def new_row(code, word, r, claim):
    """What a step other than a squeeze puts in the place of a row, or None."""
    row = code[1][r]
    if word == "fold":
        return folded(row, claim[r])
    if word == "decide":
        return decided(row, claim[r])
    if word == "drop" and only_writes(row) and not may_be_read(code, r, claim, row[1]):
        return SKIP
    if word == "forget" and row[0] == "keep" and not may_be_read(code, r, claim, row[1]):
        return SKIP
    if word == "unreach" and r not in claim and r < len(code[1]) - 1:
        return SKIP
    return None


def folded(row, known):
    """known are the pairs of registers and values."""
    if row[0] == "const":
        return None
    value = known_written(row, dict(known))
    if value is None:
        return None
    return ("const", row[1], value)


def decided(row, known):
    values = dict(known)
    if row[0] != "zero" or row[1] not in values:
        return None
    if values[row[1]] == ("int", 0):
        return ("jump", row[2])
    return SKIP


def only_writes(row):
    """Tells whether a row writes a register and does nothing else."""
    return row[0] in ONLY_WRITING or row[0] == "op" and row[2] in WITHOUT_FAULT


def may_be_read(code, r, needed, thing):
    """Tells whether a register or place is needed, by the claim, in a row that may come behind a row."""
    return any([thing in needed[t] for t in following(code, r)])


def squeezed(code, r):
    """The code without a row that is a skip or a jump to the next row; None for other rows."""
    kinds, rows = code
    if rows[r] != SKIP and rows[r] != ("jump", r + 1):
        return None
    left = rows[:r] + rows[r + 1:]
    return kinds, tuple([drawn_up(row, r) for row in left])


def drawn_up(row, r):
    """A row of code from which the row r was taken away."""
    if row[0] in ("jump", "zero") and row[-1] > r:
        return row[:-1] + (row[-1] - 1,)
    return row
