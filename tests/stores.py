"""Stores for code and clauses that are run in tests: they write down what they are asked and told."""

import random


def zero(kind):
    return ("int", 0) if kind == "int" else ("str", "")


class Store:
    """Variables with zero values at first; tries that are lost, calls that are empty; a log of all that happens."""

    def __init__(self, script, lost=(), empty=(), opened=()):
        self.script, self.lost, self.empty = script, lost, empty
        self.globals = [zero(kind) for _, kind in script[0]]
        self.threads, self.arrays = {}, {}
        self.tries = self.calls = 0
        self.opened = set(opened)
        self.given = max((0,) + tuple(opened))
        self.log = []

    def note(self, answer, *told):
        self.log.append(told + (answer,))
        return answer

    def global_value(self, i):
        return self.note(self.globals[i], "global", i)

    def thread_value(self, tid, i):
        return self.note(self.threads.get((tid, i), zero(self.script[2][i][1])), "thread", tid, i)

    def array_value(self, i, keys):
        return self.note(self.arrays.get((i, keys), zero(self.script[1][i][2])), "array", i, keys)

    def set_global(self, i, value):
        self.globals[i] = value
        return self.note(None, "set_global", i, value)

    def kept(self, variables, place, value):
        self.tries += 1
        if self.tries - 1 in self.lost:
            return False
        variables[place] = value
        return True

    def set_thread(self, tid, i, value):
        return self.note(self.kept(self.threads, (tid, i), value), "set_thread", tid, i, value)

    def set_array(self, i, keys, value):
        return self.note(self.kept(self.arrays, (i, keys), value), "set_array", i, keys, value)

    def spec(self):
        self.calls += 1
        if self.calls - 1 in self.empty:
            return self.note(0, "spec")
        self.given += 1
        self.opened.add(self.given)
        return self.note(self.given, "spec")

    def is_open(self, n):
        return self.note(n in self.opened, "is_open", n)

    def record(self, spec, sort, values):
        return self.note(None, "record", spec, sort, values)

    def put(self, i, keys, n):
        return self.note(None, "put", i, keys, n)

    def commit(self, n):
        self.opened.discard(n)
        return self.note(None, "commit", n)

    def discard(self, n):
        self.opened.discard(n)
        return self.note(None, "discard", n)

    def fault(self, word):
        return self.note(None, "fault", word)

    def image(self):
        """What a meaning tells as its variables."""
        threads = sorted((tid, i, value) for (tid, i), value in self.threads.items() if value != zero(value[0]))
        arrays = sorted((i, keys, value) for (i, keys), value in self.arrays.items() if value != zero(value[0]))
        return tuple(self.globals), tuple(threads), tuple(arrays)

    def doings(self):
        """The log without the values of variables that were asked for, which the optimiser may save."""
        return [told for told in self.log if told[0] not in ("global", "thread", "array")]


def drawn_store(script, seed):
    """A store with drawn values, the same ones for one seed."""
    chance = random.Random(seed)
    store = Store(script, lost=set(range(chance.choice((0, 1, 40)), 60, chance.choice((2, 3, 5)))),
                  empty=set(chance.choice(((), (0,), (1, 3), range(40)))), opened=chance.choice(((), (1,), (2, 5))))
    for i, (_, kind) in enumerate(script[0]):
        store.globals[i] = drawn_value(chance, kind)
    for i, (_, kind) in enumerate(script[2]):
        for tid in range(-1, 4):
            store.threads[tid, i] = drawn_value(chance, kind)
    for i, (_, kinds, kind) in enumerate(script[1]):
        for _ in range(6):
            store.arrays[i, tuple(drawn_value(chance, one) for one in kinds)] = drawn_value(chance, kind)
    return store


NUMBERS = (0, 0, 1, 1, 2, 3, -1, -2, 5, 17, 32, 255, 256, -2 ** 63, 2 ** 63 - 1, 2 ** 62)
TEXTS = ("", "", "a", "b", "ab", "tick", "insn", "0", "x y", "m" * 16, "n" * 17, "q" * 32, "it's #1")


def drawn_value(chance, kind):
    return ("int", chance.choice(NUMBERS)) if kind == "int" else ("str", chance.choice(TEXTS))
