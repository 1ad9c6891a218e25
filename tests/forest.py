"""Random trees of scripts, made from a seed; they are those of the table in point 1.6."""

import random

NAMES = ("a", "b", "count1", "into", "x_9", "Sum", "nowhere", "r4", "arg", "end", "insn")
COMPARES = ("==", "!=", "<", "<=", ">", ">=")
SIGNS = ("+", "-", "*", "/", "mod") + COMPARES
TEXT = "".join(chr(k) for k in range(32, 127) if chr(k) not in "%\\\"")


class Forest:
    def __init__(self, seed):
        self.random = random.Random(seed)

    def one(self, *choices):
        return self.random.choice(choices)

    def some(self, make, least, most):
        return tuple(make() for _ in range(self.random.randint(least, most)))

    def name(self):
        return self.one(*NAMES)

    def kind(self):
        return self.one("int", "str")

    def expr(self, depth=4):
        if depth == 0 or self.random.random() < 0.2:
            return self.leaf()
        sub = lambda: self.expr(depth - 1)
        word = self.one("minus", "not", "op", "op", "op", "and", "or", "if", "ask", "cell")
        if word in ("minus", "not"):
            return (word, sub())
        if word == "op":
            return (word, self.one(*SIGNS), sub(), sub())
        if word in ("and", "or"):
            return (word, sub(), sub())
        if word == "if":
            return (word, sub(), sub(), sub())
        if word == "ask":
            return (word, self.one("len", "cat", "sub", "text", "byte", "spec"), self.some(sub, 0, 3))
        return (word, self.name(), self.some(sub, 1, 3))

    def leaf(self):
        return self.one(
            ("int", self.one(0, 1, 10, 9223372036854775807)),
            ("str", "".join(self.random.choice(TEXT) for _ in range(self.one(0, 1, 5, 32)))),
            ("word", self.one("now", "cpu", "pid", "tid", "at", "name")),
            ("arg", self.random.randrange(4)), ("reg", self.random.randrange(4)),
            ("var", self.name()), ("self", self.name()))

    def action(self):
        word = self.one("set", "put", "trace", "say", "speculate", "commit", "discard", "stop")
        if word == "set":
            place = self.one(("var", self.name()), ("self", self.name()),
                             ("cell", self.name(), self.some(self.expr, 1, 3)))
            return (word, place, self.expr())
        if word == "put":
            function = self.one("count", "sum", "least", "most", "hist")
            return (word, self.name(), self.some(self.expr, 0, 3), function, self.one(None, self.expr()))
        if word in ("trace", "say"):
            return (word, self.some(self.expr, 0, 4))
        if word == "stop":
            return (word,)
        return (word, self.expr())

    def pattern(self):
        which = lambda: self.one(None, 0, 7, 255)
        return (self.one(self.name(), "at", "name"), which(), which())

    def item(self):
        word = self.one("var", "thread", "probe", "probe")
        if word == "var":
            return (word, self.kind(), self.name(), self.some(self.kind, 0, 3))
        if word == "thread":
            return (word, self.kind(), self.name())
        own = lambda: (self.kind(), self.name())
        return (word, self.some(self.pattern, 1, 3), self.one(None, self.expr()),
                self.some(own, 0, 2), self.some(self.action, 0, 4))

    def script(self):
        return self.some(self.item, 0, 5)
