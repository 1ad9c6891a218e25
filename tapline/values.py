"""Values of scripts: numbers of 64 bits and short texts."""

from tapline.kinds import INT
from tapline.limits import LEAST, RANGE


def wrap(n):
    """The number of the range that differs from n by a multiple of 2 ** 64."""
    return (n - LEAST) % RANGE + LEAST


def zero(kind):
    """The zero value of a kind."""
    if kind == INT:
        return ("int", 0)
    return ("str", "")


def apply_op(sign, a, b):
    """What an operator gives for two numbers, or None for the fault "division"."""
    if sign == "+":
        return wrap(a + b)
    if sign == "-":
        return wrap(a - b)
    if sign == "*":
        return wrap(a * b)
    if sign not in ("/", "mod"):
        return truth_of(sign, a, b)
    if b == 0:
        return None
    if sign == "/":
        return wrap(a // b)
    return a % b


def apply_same(sign, s, t):
    """What a comparison gives for two texts: 1 or 0."""
    return truth_of(sign, s, t)


def truth_of(sign, a, b):
    """1 if a comparison of two numbers or of two texts holds, otherwise 0."""
    # Texts are compared by the codes of their characters, as Python does it.
    if sign == "==":
        holds = a == b
    elif sign == "!=":
        holds = a != b
    elif sign == "<":
        holds = a < b
    elif sign == "<=":
        holds = a <= b
    elif sign == ">":
        holds = a > b
    else:
        holds = a >= b
    return int(holds)
