"""Actions are checked, and the tables of the script are found in them."""

from tapline.errors import WrongCount, WrongKind
from tapline.kinds import INT
from tapline.limits import MOST_KEYS, MOST_VALUES
from tapline.typed_exprs import typed_expr, typed_list, typed_place


class Tables:
    """The tables of a script, in the order in which they were first met."""

    def __init__(self):
        self.rows = []
        self.indexes = {}

    def first(self, name):
        """The table (name, kinds of the keys, function) as it was first met, or None."""
        if name not in self.indexes:
            return None
        return self.rows[self.indexes[name]]

    def index_of(self, table):
        """The index of a table; one of a new name is added."""
        name = table[0]
        if name not in self.indexes:
            self.indexes[name] = len(self.rows)
            self.rows.append(table)
        return self.indexes[name]


def typed_action(scope, tables, action):
    word = action[0]
    if word == "set":
        return typed_set(scope, action[1], action[2])
    if word == "put":
        return typed_put(scope, tables, action)
    if word == "stop":
        return action
    if word in ("trace", "say"):
        values = typed_list(scope, action[1])
        if len(values) > MOST_VALUES:
            raise WrongCount(word)
        return (word, values)
    value = typed_expr(scope, action[1])
    if scope.kind_of(value) != INT:
        raise WrongKind(word)
    return (word, value)


def typed_set(scope, place, expr):
    target = typed_place(scope, place)
    value = typed_expr(scope, expr)
    if scope.kind_of(value) != scope.kind_of(target):
        raise WrongKind(place[1])
    return ("set", target, value)


def typed_put(scope, tables, action):
    _, name, keys, function, expr = action
    first = tables.first(name)
    if len(keys) > MOST_KEYS or first is not None and len(keys) != len(first[1]):
        raise WrongCount(name)
    typed_keys = typed_list(scope, keys)
    if (expr is None) != (function == "count"):
        raise WrongCount(function)
    value = None
    if expr is not None:
        value = typed_expr(scope, expr)
    table = (name, scope.kinds_of(typed_keys), function)
    if first is not None and first != table:
        raise WrongKind(name)
    if value is not None and scope.kind_of(value) != INT:
        raise WrongKind(function)
    return ("put", tables.index_of(table), typed_keys, value)
