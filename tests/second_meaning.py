"""Part 5 once more, from its words alone, to compare the program with: expressions become functions."""


class Stopped(Exception):
    """A fault."""


def within(n):
    n %= 2 ** 64
    return n - 2 ** 64 if n >= 2 ** 63 else n


def fail(word):
    raise Stopped(word)


ARITHMETIC = {
    "+": lambda a, b: within(a + b),
    "-": lambda a, b: within(a - b),
    "*": lambda a, b: within(a * b),
    "/": lambda a, b: within(a // b) if b else fail("division"),
    "mod": lambda a, b: a - b * (a // b) if b else fail("division"),
}
TRUTHS = {
    "==": lambda a, b: not (a < b or b < a),
    "!=": lambda a, b: a < b or b < a,
    "<": lambda a, b: a < b,
    "<=": lambda a, b: not b < a,
    ">": lambda a, b: b < a,
    ">=": lambda a, b: not a < b,
}
SIMPLE = {
    "minus": lambda n: within(-n),
    "not": lambda n: 0 if n else 1,
    "len": lambda s: sum(1 for _ in s),
    "cat": lambda s, t: "".join((s, t)) if len(s + t) < 33 else fail("long"),
    "sub": lambda s, a, n: "".join(c for k, c in enumerate(s) if a <= k < a + n) if 0 <= a < len(s) else "",
    "text": lambda n: "{:d}".format(n),
}


def valued(thing):
    if isinstance(thing, str):
        return ("str", thing)
    return ("int", 1 if thing is True else 0 if thing is False else thing)


class SecondMeaning:
    """One clause at one view, with a store."""

    def __init__(self, clause, view, store):
        self.patterns, self.predicate, kinds, self.actions = clause
        (self.kind, self.cpu, self.time, self.pid, self.tid, self.at, self.args), self.regs, self.memory = view
        self.store = store
        self.mine = {k: "" if kind == "str" else 0 for k, kind in enumerate(kinds)}
        self.into = None
        self.closed = set()
        self.deeds = []

    def of(self, e):
        """The plain number or text that an expression gives."""
        word, rest = e[0], e[1:]
        if word in ("int", "str"):
            return rest[0]
        if not rest and word != "spec":
            return {"now": self.time, "cpu": self.cpu, "pid": self.pid, "tid": self.tid, "at": self.at,
                    "name": self.kind}[word]
        return getattr(self, "of_" + word, lambda *parts: SIMPLE[word](*[self.of(part) for part in parts]))(*rest)

    def of_arg(self, i):
        return (self.args + (0, 0, 0, 0))[i]

    def of_reg(self, i):
        return self.regs[i]

    def of_global(self, i):
        return self.store.global_value(i)[1]

    def of_local(self, i):
        return self.mine[i]

    def of_thread(self, i):
        return self.store.thread_value(self.tid, i)[1]

    def of_array(self, i, keys):
        return self.store.array_value(i, self.all(keys))[1]

    def of_op(self, sign, a, b):
        a = self.of(a)
        b = self.of(b)
        return ARITHMETIC[sign](a, b) if sign in ARITHMETIC else int(TRUTHS[sign](a, b))

    def of_same(self, sign, a, b):
        a = self.of(a)
        return int(TRUTHS[sign](list(map(ord, a)), list(map(ord, self.of(b)))))

    def of_and(self, a, b):
        return 0 if self.of(a) == 0 else min(1, abs(self.of(b)))

    def of_or(self, a, b):
        return 1 if self.of(a) != 0 else min(1, abs(self.of(b)))

    def of_if(self, c, a, b):
        return self.of(b if self.of(c) == 0 else a)

    def of_byte(self, a):
        a = self.of(a)
        return dict(enumerate(self.memory))[a] if a in range(256) and self.memory else fail("byte")

    def of_spec(self):
        return self.store.spec()

    def all(self, exprs):
        return tuple(valued(self.of(e)) for e in exprs)

    def run(self):
        try:
            if self.predicate is None or self.of(self.predicate):
                for action in self.actions:
                    getattr(self, "do_" + action[0])(*action[1:])
                    if action == ("stop",):
                        break
        except Stopped as why:
            self.store.fault(str(why))
            self.deeds.append(("fault", str(why)))
        return tuple(self.deeds)

    def do_set(self, target, e):
        word, i = target[:2]
        keys = self.all(target[2]) if word == "array" else ()
        value = valued(self.of(e))
        if word == "local":
            self.mine[i] = value[1]
            return
        kept = True
        if word == "global":
            self.store.set_global(i, value)
        elif word == "thread":
            kept = self.store.set_thread(self.tid, i, value)
        else:
            kept = self.store.set_array(i, keys, value)
        self.deeds.append(("set", (word, i), keys, value, kept))

    def do_trace(self, exprs, sort="trace"):
        values = self.all(exprs)
        if self.into == 0:
            return
        into = None if self.into in self.closed else self.into
        self.store.record(into, sort, values)
        self.deeds.append(("record", into, sort, values))

    def do_say(self, exprs):
        self.do_trace(exprs, "say")

    def do_put(self, i, keys, e):
        keys = self.all(keys)
        n = None if e is None else self.of(e)
        self.store.put(i, keys, n)
        self.deeds.append(("put", i, keys, n))

    def do_speculate(self, e):
        n = self.of(e)
        if n != 0 and not self.store.is_open(n):
            fail("speculation")
        self.into = n
        self.closed = set()

    def do_commit(self, e, word="commit"):
        n = self.of(e)
        if n == 0:
            return
        if not self.store.is_open(n):
            fail("speculation")
        getattr(self.store, word)(n)
        self.closed.add(n)
        self.deeds.append((word, n))

    def do_discard(self, e):
        self.do_commit(e, "discard")

    def do_stop(self):
        self.deeds.append(("stop",))


class SecondSession:
    """A whole script on a row of views."""

    def __init__(self, script, store):
        self.script, self.store, self.stopped = script, store, False

    def names(self, pattern, event):
        wanted = {"kind": pattern[0], "number": pattern[1], "at": pattern[2]}
        told = {"kind": event[0], "at": event[5],
                "number": event[6][0] if event[0] in ("entry", "return") else event[3]}
        return all(wanted[k] is None or wanted[k] == told[k] for k in told)

    def handle(self, view):
        done = []
        if self.stopped and view[0][0] != "close":
            return ()
        for index, clause in enumerate(self.script[4]):
            if any(self.names(pattern, view[0]) for pattern in clause[0]):
                deeds = SecondMeaning(clause, view, self.store).run()
                done.append((index, deeds))
                if ("stop",) in deeds:
                    self.stopped = True
                    break
        return tuple(pair for pair in done if pair[1])
