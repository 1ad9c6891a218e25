"""How strongly operators bind: the levels of expressions, for parsing and for printing."""

IF_LEVEL = 0
SIGN_LEVELS = {
    "||": 1, "&&": 2,
    "==": 3, "!=": 3, "<": 3, "<=": 3, ">": 3, ">=": 3,
    "+": 4, "-": 4,
    "*": 5, "/": 5, "mod": 5,
}
# Comparisons do not stand in a row: they have one operand on each side.
COMPARE_LEVEL = 3
MINUS_LEVEL = 6
PRIMARY_LEVEL = 7
