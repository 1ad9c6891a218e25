"""Code: its form, and which rows, registers and places its rows have to do with."""

from tapline.forms import has_form
from tapline.limits import MOST_INDEX
from tapline.row_parts import LISTED, PARTS, operands_of, parts_of

WORDS = (
    "const", "view", "arg", "reg", "get", "keep", "global", "thread", "array", "op", "compare",
    "minus", "not", "len", "cat", "sub", "text", "byte", "spec", "jump", "zero",
    "setglobal", "setthread", "setarray", "record", "put", "speculate", "commit", "discard",
    "stop", "skip", "end",
)


def is_code(thing):
    """Tells whether a thing is code of the form of point 6.1, within the limits of the interface."""
    return has_form(thing, MOST_INDEX)


def following(code, r):
    """The ascending tuple of the rows of the code that may come after the row r."""
    rows = code[1]
    if r < 0 or r >= len(rows):
        return ()
    word = rows[r][0]
    coming = []
    if word not in ("jump", "stop", "end"):
        coming.append(r + 1)
    if word in ("jump", "zero"):
        coming.append(rows[r][-1])
    return tuple(sorted(set([t for t in coming if 0 <= t < len(rows)])))


def reads(row):
    """The ascending tuple of the registers that a row reads."""
    return tuple(sorted(set(operands_of(row))))


def reads_places(row):
    """The ascending tuple of the places that a row reads."""
    places = []
    for part, thing in parts_of(row):
        if part == "place":
            places.append(thing)
        elif part in LISTED:
            places.extend(thing)
    return tuple(sorted(set(places)))


def writes(row):
    """The register that a row writes, or -1."""
    if PARTS[row[0]][:1] == ("into",):
        return row[1]
    return -1
