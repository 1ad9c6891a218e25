"""What rows write, as far as the values of registers are known beforehand."""

from tapline.code import writes
from tapline.faults import Fault
from tapline.operations import computed
from tapline.row_kinds import needs_met
from tapline.row_parts import operands_of, sign_of

COMPUTING = ("op", "compare", "minus", "not", "len", "cat", "sub", "text")


def known_written(row, known):
    """The known value that a row writes, or None; known has the values of registers before it."""
    word = row[0]
    if word == "const":
        return row[2]
    if word not in COMPUTING:
        return None
    operands = operands_of(row)
    if not all([a in known for a in operands]):
        return None
    values = [known[a] for a in operands]
    if not needs_met(word, tuple([kind for kind, _ in values])):
        return None
    try:
        return computed(word, sign_of(row), values)
    except Fault:
        return None


def known_after(row, known):
    """The dict of the values of registers that are known behind a row."""
    a = writes(row)
    if a < 0:
        return known
    later = {b: known[b] for b in known if b != a}
    value = known_written(row, known)
    if value is not None:
        later[a] = value
    return later
