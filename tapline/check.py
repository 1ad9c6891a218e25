"""Scripts are checked: trees become typed scripts."""

from tapline.errors import DoubleName, UnknownName, WrongCount, WrongKind
from tapline.kinds import INT, expr_kind
from tapline.limits import MOST_KEYS
from tapline.parser import parse
from tapline.scope import Scope
from tapline.typed_actions import Tables, typed_action
from tapline.typed_exprs import typed_expr

EVENTS = ("insn", "entry", "return", "fault", "on", "off", "end", "done", "tick")
OF_SESSION = ("begin", "close")


def typed_script(text):
    """The typed script of a text."""
    return check_script(parse(text))


def check_script(script):
    """The typed script (globals, arrays, threads, tables, clauses) of a tree."""
    declared = declared_in(script)
    tables = Tables()
    clauses = tuple([typed_clause(declared, tables, item) for item in script if item[0] == "probe"])
    return declared + (tuple(tables.rows), clauses)


def kind_of(typed, clause, expr):
    """The kind of a typed expression in the clause with this index."""
    return expr_kind(typed, typed[4][clause][2], expr)


def declared_in(script):
    """The globals, arrays and threads of a tree."""
    singles = []
    arrays = []
    threads = []
    variable_names = {}
    thread_names = {}
    for item in script:
        if item[0] == "thread":
            _, kind, name = item
            if name in thread_names:
                raise DoubleName(name)
            thread_names[name] = True
            threads.append((name, kind))
        elif item[0] == "var":
            _, kind, name, keys = item
            if name in variable_names:
                raise DoubleName(name)
            variable_names[name] = True
            if len(keys) > MOST_KEYS:
                raise WrongCount(name)
            if keys:
                arrays.append((name, keys, kind))
            else:
                singles.append((name, kind))
    return tuple(singles), tuple(arrays), tuple(threads)


def typed_clause(declared, tables, probe):
    _, patterns, predicate, own, actions = probe
    for pattern in patterns:
        check_pattern(pattern)
    scope = Scope(declared, own)
    condition = None
    if predicate is not None:
        condition = typed_expr(scope, predicate)
        if scope.kind_of(condition) != INT:
            raise WrongKind("when")
    typed = tuple([typed_action(scope, tables, action) for action in actions])
    return patterns, condition, scope.own, typed


def check_pattern(pattern):
    word, number, at = pattern
    if word in OF_SESSION:
        if number is not None or at is not None:
            raise WrongCount(word)
    elif word not in EVENTS:
        raise UnknownName(word)
