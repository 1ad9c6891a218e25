"""The rows of code: what stands behind the word of each."""

# The parts of a row:
#   into, from     a register that the row writes, reads; optional: one that it reads, or -1
#   place, slot    a place that the row reads, writes
#   keys, places   a tuple of places that the row reads: those of keys, and others
#   member         the index of an argument of the event, or of a register of the machine
#   global, thread, array, table    an index of the script
#   target         the index of a row
#   value          a value
#   view, sign, order, sort    a word of CHOICES
PARTS = {
    "const": ("into", "value"),
    "view": ("into", "view"),
    "arg": ("into", "member"),
    "reg": ("into", "member"),
    "get": ("into", "place"),
    "keep": ("slot", "from"),
    "global": ("into", "global"),
    "thread": ("into", "thread"),
    "array": ("into", "array", "keys"),
    "op": ("into", "sign", "from", "from"),
    "compare": ("into", "order", "from", "from"),
    "minus": ("into", "from"),
    "not": ("into", "from"),
    "len": ("into", "from"),
    "cat": ("into", "from", "from"),
    "sub": ("into", "from", "from", "from"),
    "text": ("into", "from"),
    "byte": ("into", "from"),
    "spec": ("into",),
    "jump": ("target",),
    "zero": ("from", "target"),
    "setglobal": ("global", "from"),
    "setthread": ("thread", "from"),
    "setarray": ("array", "keys", "from"),
    "record": ("sort", "places"),
    "put": ("table", "keys", "optional"),
    "speculate": ("from",),
    "commit": ("from",),
    "discard": ("from",),
    "stop": (),
    "skip": (),
    "end": (),
}

# The words that a part may be, in the order of point 6.13.
CHOICES = {
    "view": ("now", "cpu", "pid", "tid", "at", "name"),
    "sign": ("+", "-", "*", "/", "mod"),
    "order": ("==", "!=", "<", "<=", ">", ">="),
    "sort": ("trace", "say"),
}

LISTED = ("keys", "places")


def parts_of(row):
    """The list of the pairs (part, what stands there) of a row."""
    return list(zip(PARTS[row[0]], row[1:]))


def operands_of(row):
    """The tuple of the registers that a row reads, in the order of the row."""
    operands = [thing for part, thing in parts_of(row) if part == "from" or part == "optional" and thing >= 0]
    return tuple(operands)


def sign_of(row):
    """The sign of an op or a compare, and the empty string for other rows."""
    if row[0] in ("op", "compare"):
        return row[2]
    return ""
