"""Expressions are checked: names become indexes, and every part has the kind that its place needs."""

from tapline.errors import WrongCount, WrongKind
from tapline.kinds import INT, STR

# What each function that is asked takes.
TAKEN = {
    "len": ("str",), "cat": ("str", "str"), "sub": ("str", "int", "int"),
    "text": ("int",), "byte": ("int",), "spec": (),
}
# The words by which errors name the operators whose parts are all numbers.
NAMED = {"minus": "-", "not": "!", "and": "&&", "or": "||"}
ON_NUMBERS = ("+", "-", "*", "/", "mod")


def typed_expr(scope, expr):
    """The typed expression of a tree; the parts are examined before what they are parts of."""
    word = expr[0]
    if word in ("var", "cell", "self"):
        return typed_place(scope, expr)
    if word == "word":
        return (expr[1],)
    if word == "op":
        return typed_op(scope, expr[1], typed_list(scope, expr[2:]))
    if word in NAMED:
        return typed_plain(scope, word, typed_list(scope, expr[1:]))
    if word == "if":
        return typed_if(scope, typed_list(scope, expr[1:]))
    if word == "ask":
        return typed_ask(scope, expr[1], typed_list(scope, expr[2]))
    return expr


def typed_list(scope, exprs):
    return tuple([typed_expr(scope, expr) for expr in exprs])


def typed_place(scope, place):
    """The typed expression of a variable, an element of an array or a thread variable."""
    word = place[0]
    name = place[1]
    if word == "var":
        return scope.single(name)
    if word == "self":
        return scope.thread(name)
    i, kinds = scope.array(name)
    if len(place[2]) != len(kinds):
        raise WrongCount(name)
    keys = typed_list(scope, place[2])
    if scope.kinds_of(keys) != kinds:
        raise WrongKind(name)
    return ("array", i, keys)


def typed_op(scope, sign, parts):
    kinds = scope.kinds_of(parts)
    if kinds == (INT, INT):
        return ("op", sign) + parts
    if kinds == (STR, STR) and sign not in ON_NUMBERS:
        return ("same", sign) + parts
    raise WrongKind(sign)


def typed_plain(scope, word, parts):
    for part in parts:
        if scope.kind_of(part) != INT:
            raise WrongKind(NAMED[word])
    return (word,) + parts


def typed_if(scope, parts):
    condition, yes, no = scope.kinds_of(parts)
    if condition != INT or yes != no:
        raise WrongKind("?")
    return ("if",) + parts


def typed_ask(scope, function, parts):
    if len(parts) != len(TAKEN[function]):
        raise WrongCount(function)
    if scope.kinds_of(parts) != TAKEN[function]:
        raise WrongKind(function)
    return (function,) + parts
