"""The kinds of values: "int" and "str"."""

INT = "int"
STR = "str"

# What gives a text, whatever its parts are; all others but variables and conditions give numbers.
GIVING_TEXT = ("str", "name", "cat", "sub", "text")


def expr_kind(declared, own, expr):
    """The kind of a typed expression.

    declared begins with the globals, arrays and threads of a typed script, own is the tuple of the
    kinds of the locals.
    """
    while expr[0] == "if":
        expr = expr[2]
    word = expr[0]
    if word == "local":
        return own[expr[1]]
    if word == "global":
        return declared[0][expr[1]][1]
    if word == "array":
        return declared[1][expr[1]][2]
    if word == "thread":
        return declared[2][expr[1]][1]
    if word in GIVING_TEXT:
        return STR
    return INT
