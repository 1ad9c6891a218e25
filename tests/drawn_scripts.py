"""Drawn typed scripts, and views for them."""

import random

from model import drawn_run
from stores import drawn_value

from tapline.check import EVENTS
from tapline.log import log_of

GLOBALS = (("n", "int"), ("m", "int"), ("s", "str"))
ARRAYS = (("a", ("int",), "int"), ("b", ("str", "int"), "str"), ("c", ("int", "str", "int"), "int"))
THREADS = (("note", "str"), ("own", "int"))
TABLES = (("hits", (), "count"), ("per", ("int",), "sum"), ("low", ("str", "int"), "least"),
          ("high", ("str", "str", "int"), "most"), ("spread", ("int",), "hist"), ("by", ("str",), "count"))
VIEWED = {"int": (("now",), ("cpu",), ("pid",), ("tid",), ("at",)), "str": (("name",),)}
MAKING = {
    "int": ("minus", "not", "op", "op", "op", "op", "order", "same", "and", "or", "if", "len", "byte", "spec", "array"),
    "str": ("if", "cat", "cat", "sub", "text", "array"),
}


class Drawn:
    """Draws clauses over the variables above."""

    def __init__(self, seed, depth=3):
        self.chance = random.Random(seed)
        self.depth = depth
        self.own = ()

    def one(self, *choices):
        return self.chance.choice(choices)

    def script(self, most=3):
        clauses = tuple(self.clause() for _ in range(self.chance.randint(1, most)))
        return (GLOBALS, ARRAYS, THREADS, TABLES, clauses)

    def clause(self):
        self.own = tuple(self.one("int", "str") for _ in range(self.chance.randrange(4)))
        patterns = tuple(self.pattern() for _ in range(self.one(1, 1, 2, 3)))
        predicate = self.one(None, None, self.expr("int", self.depth))
        return patterns, predicate, self.own, tuple(self.action() for _ in range(self.one(0, 1, 3, 5, 8)))

    def pattern(self):
        kind = self.one(*EVENTS, "insn", "on", "begin", "close")
        if kind in ("begin", "close"):
            return (kind, None, None)
        return (kind, self.one(None, None, None, 0, 1, 3, 5), self.one(None, None, None, None, 0, 2, 8))

    def exprs(self, kinds, depth):
        return tuple(self.expr(kind, depth) for kind in kinds)

    def expr(self, kind, depth):
        if depth <= 0 or self.chance.random() < 0.15:
            return self.leaf(kind)
        word = self.one(*MAKING[kind])
        less = depth - 1
        two = lambda one: self.exprs((one, one), less)
        if word == "op":
            return (word, self.one("+", "-", "*", "/", "mod")) + two("int")
        if word in ("order", "same"):
            sign = self.one("==", "!=", "<", "<=", ">", ">=")
            return ("op", sign) + two("int") if word == "order" else ("same", sign) + two("str")
        if word == "if":
            return (word, self.expr("int", less)) + two(kind)
        if word == "array":
            i = self.one(*(k for k, (_, _, of) in enumerate(ARRAYS) if of == kind))
            return (word, i, self.exprs(ARRAYS[i][1], less))
        taken = {"and": ("int", "int"), "or": ("int", "int"), "len": ("str",), "cat": ("str", "str"),
                 "sub": ("str", "int", "int"), "spec": ()}
        return (word,) + self.exprs(taken.get(word, ("int",)), less)

    def leaf(self, kind):
        choices = [drawn_value(self.chance, kind), drawn_value(self.chance, kind), self.one(*VIEWED[kind])]
        if kind == "int":
            choices += [("arg", self.chance.randrange(4)), ("reg", self.chance.randrange(4))]
        for word, rows in (("global", GLOBALS), ("thread", THREADS)):
            choices += [(word, k) for k, (_, of) in enumerate(rows) if of == kind]
        mine = [("local", k) for k, of in enumerate(self.own) if of == kind]
        return self.one(*choices, *mine, *mine)

    def action(self):
        word = self.one("set", "set", "set", "put", "trace", "say", "speculate", "commit", "discard", "stop")
        if word == "stop" and self.chance.random() < 0.7:
            word = "trace"
        if word == "set":
            return self.assignment()
        if word == "put":
            i = self.chance.randrange(len(TABLES))
            value = None if TABLES[i][2] == "count" else self.expr("int", self.depth)
            return (word, i, self.exprs(TABLES[i][1], self.depth - 1), value)
        if word in ("trace", "say"):
            kinds = [self.one("int", "str") for _ in range(self.one(0, 1, 2, 4))]
            return (word, self.exprs(kinds, self.depth))
        if word == "stop":
            return (word,)
        known = [("int", self.one(0, 1, 2)), ("global", 0), ("local", 0) if self.own[:1] == ("int",) else ("spec",)]
        return (word, self.one(*known, *known, self.expr("int", self.depth)))

    def assignment(self):
        targets = [(word, i, of) for word, rows in (("global", GLOBALS), ("thread", THREADS), ("array", ARRAYS))
                   for i, (*_, of) in enumerate(rows)]
        targets += 2 * [("local", i, of) for i, of in enumerate(self.own)]
        word, i, kind = self.one(*targets)
        keys = (self.exprs(ARRAYS[i][1], self.depth - 1),) if word == "array" else ()
        return ("set", (word, i) + keys, self.expr(kind, self.depth))


def drawn_script(seed, depth=3):
    return Drawn(seed, depth).script()


def of_session(kind, time=0):
    return ((kind, 0, time, -1, -1, -1, ()), (0, 0, 0, 0), ())


def drawn_views(seed, many=60):
    """A row of views of a session: begin, those of a run, and close."""
    views = log_of(*drawn_run(seed, many))
    return [of_session("begin")] + views + [of_session("close", 99)]
