"""The kinds of what the rows of code need and give (point 6.5)."""

from tapline.kinds import INT, STR

# The kinds of the registers that a row reads, whatever the script is (a put may read none).
NEEDS = {
    "op": ("int", "int"), "minus": ("int",), "not": ("int",), "text": ("int",), "byte": ("int",), "zero": ("int",),
    "put": ("int",), "speculate": ("int",), "commit": ("int",), "discard": ("int",),
    "len": ("str",), "cat": ("str", "str"), "sub": ("str", "int", "int"),
}


def needs_met(word, kinds):
    """Tells whether a row of a word of NEEDS, or a compare, can take operands of these kinds."""
    if word == "compare":
        return kinds[0] == kinds[1]
    return kinds == NEEDS[word]


def kind_given(row, places, script):
    """The kind of what a row writes to its register; places are the kinds of the code's places."""
    word = row[0]
    if word == "const":
        return row[2][0]
    if word == "get":
        return places[row[2]]
    if word in ("global", "thread", "array"):
        return variable_kind(word, row[2], script)
    if word in ("cat", "sub", "text") or word == "view" and row[2] == "name":
        return STR
    return INT


def variable_kind(word, i, script):
    """The kind of a global, a thread variable or the elements of an array."""
    if word == "global":
        return script[0][i][1]
    if word == "thread":
        return script[2][i][1]
    return script[1][i][2]
