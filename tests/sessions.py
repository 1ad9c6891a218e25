"""Two ways to work out what a session does, without sessions: from the deeds of a Meaning, and from the words alone."""

import random

from drawn_scripts import Drawn
from second_buffer import SecondBuffer
from second_meaning import SecondMeaning, SecondSession

from tapline.aggregates import Aggregates
from tapline.buffers import Buffer
from tapline.meaning import Meaning
from tapline.speculations import Speculations


def zero(kind):
    return ("int", 0) if kind == "int" else ("str", "")


class Recorder:
    """The deeds of a meaning, put into buffers, speculations and tables."""

    def __init__(self, script, sizes, lost, empty):
        cpus, room, policy, _, table_cells, _, spec_room = sizes
        self.meaning = Meaning(script, lost, empty)
        self.empty = empty
        self.buffers = [Buffer(room, policy) for _ in range(cpus)]
        self.all_tables = [[Aggregates(function, table_cells) for _, _, function in script[3]] for _ in range(cpus)]
        # Which calls are empty is told, so there are places enough for the others.
        self.speculations = Speculations(10 ** 9, spec_room)
        self.deeds = []

    def handle(self, view):
        before = self.meaning.calls
        told = self.meaning.handle(view)
        for call in range(before, self.meaning.calls):
            if call not in self.empty:
                self.speculations.begin()
        for clause, deeds in told:
            for deed in deeds:
                self.do(view[0], clause, deed)
                self.deeds.append(deed)

    def do(self, event, clause, deed):
        cpu, time = event[1:3]
        if deed[0] == "record" and deed[1] is None:
            self.buffers[cpu].add((time, clause, deed[2], deed[3]))
        elif deed[0] == "record":
            self.speculations.add(deed[1], (time, clause, deed[2], deed[3]))
        elif deed[0] == "put":
            self.all_tables[cpu][deed[1]].put(deed[2], deed[3])
        elif deed[0] == "commit":
            self.speculations.commit(deed[1], self.buffers[cpu])
        elif deed[0] == "discard":
            self.speculations.discard(deed[1])
        elif deed[0] == "fault":
            self.buffers[cpu].add((time, clause, "fault", (("str", deed[1]),)))

    def read(self, cpu):
        items = self.buffers[cpu].switch()
        self.buffers[cpu].give_back()
        return items

    def tables(self, cpu):
        return tuple(table.look() for table in self.all_tables[cpu])

    def lost(self):
        lost_puts = sum(table.lost for tables in self.all_tables for table in tables)
        return sum(one.lost for one in self.buffers + [self.speculations]), lost_puts


class LimitedStore:
    """Everything that a session keeps, in plain dicts and lists."""

    def __init__(self, script, sizes):
        self.script = script
        cpus, room, policy, self.cells, self.table_cells, self.places, self.spec_room = sizes
        self.buffers = [SecondBuffer(room, policy) for _ in range(cpus)]
        self.numbers = [[{} for _ in script[3]] for _ in range(cpus)]
        self.globals = [zero(kind) for _, kind in script[0]]
        self.threads, self.arrays = {}, {}
        self.tries, self.calls = [], []
        self.waiting, self.given = {}, 0
        self.lost_puts = self.lost_records = 0
        self.event, self.clause = None, None

    def global_value(self, i):
        return self.globals[i]

    def thread_value(self, tid, i):
        return self.threads.get((tid, i), zero(self.script[2][i][1]))

    def array_value(self, i, keys):
        return self.arrays.get((i, keys), zero(self.script[1][i][2]))

    def set_global(self, i, value):
        self.globals[i] = value

    def attempt(self, held, place, value):
        kept = value in (("int", 0), ("str", "")) or place in held or len(held) < self.cells
        self.tries.append(kept)
        if kept:
            held[place] = value
            if value in (("int", 0), ("str", "")):
                del held[place]
        return kept

    def set_thread(self, tid, i, value):
        return self.attempt(self.threads, (tid, i), value)

    def set_array(self, i, keys, value):
        return self.attempt(self.arrays, (i, keys), value)

    def spec(self):
        self.calls.append(len(self.waiting) < self.places)
        if not self.calls[-1]:
            return 0
        self.given += 1
        self.waiting[self.given] = SecondBuffer(self.spec_room, "hold")
        return self.given

    def is_open(self, n):
        return n in self.waiting

    def record(self, spec, sort, values):
        buffer = self.buffers[self.event[1]] if spec is None else self.waiting[spec]
        fits = buffer.add_block(((self.event[2], self.clause, sort, values),))
        self.lost_records += not fits and spec is not None

    def put(self, i, keys, n):
        table = self.numbers[self.event[1]][i]
        if keys in table or len(table) < self.table_cells:
            table.setdefault(keys, []).append(n)
        else:
            self.lost_puts += 1

    def commit(self, n):
        self.buffers[self.event[1]].add_block(self.waiting.pop(n).held())

    def discard(self, n):
        del self.waiting[n]

    def fault(self, word):
        self.record(None, "fault", (("str", word),))


class LimitedSession:
    """A session by the second meaning of the tests."""

    def __init__(self, script, sizes):
        self.script = script
        self.store = LimitedStore(script, sizes)
        self.patterns = SecondSession(script, self.store)
        self.ended = False

    def handle(self, view):
        if self.ended and view[0][0] != "close":
            return
        for index, clause in enumerate(self.script[4]):
            if any(self.patterns.names(pattern, view[0]) for pattern in clause[0]):
                self.store.event, self.store.clause = view[0], index
                if ("stop",) in SecondMeaning(clause, view, self.store).run():
                    self.ended = True
                    return

    def read(self, cpu):
        buffer = self.store.buffers[cpu]
        items = buffer.switch()
        buffer.give_back()
        return items

    def numbers(self, cpu):
        """For each table the dict of the rows of numbers that were put under each key."""
        return self.store.numbers[cpu]

    def lost(self):
        store = self.store
        records = store.lost_records + sum(buffer.lost for buffer in store.buffers)
        return records, store.tries.count(False), store.calls.count(False), store.lost_puts

    def lost_tries(self):
        return tuple(k for k, kept in enumerate(self.store.tries) if not kept)

    def empty_calls(self):
        return tuple(k for k, found in enumerate(self.store.calls) if not found)

    def variables(self):
        store = self.store
        return (tuple(store.globals), tuple(sorted(place + (value,) for place, value in store.threads.items())),
                tuple(sorted(place + (value,) for place, value in store.arrays.items())))


NONE = (4, 0, "hold", 0, 0, 0, 0)
LARGE = (4, 10 ** 6, "hold", 10 ** 6, 10 ** 6, 10 ** 6, 10 ** 6)


def drawn_sizes(seed, cpus=4):
    """The sizes of a session; the first ones are none and large ones."""
    if seed < 4:
        return (cpus, (NONE, LARGE)[seed % 2][1], ("hold", "ring")[seed // 2]) + (NONE, LARGE)[seed % 2][3:]
    chance = random.Random(seed)
    return (cpus, chance.choice((0, 5, 20, 60, 200, 2000)), chance.choice(("hold", "ring")), chance.choice((0, 1, 2, 5, 30)),
            chance.choice((0, 1, 2, 5, 30)), chance.choice((0, 1, 2, 3, 10)), chance.choice((0, 3, 10, 40, 200)))


class SessionDrawn(Drawn):
    """Draws scripts that use much of what a session has: they fire often, speculate, set and put."""

    def clause(self):
        patterns, predicate, own, _ = super().clause()
        return patterns, self.one(None, None, predicate), own, sum((self.group() for _ in range(self.one(1, 2, 4, 6))), ())

    def pattern(self):
        kind, number, at = super().pattern()
        return (kind, self.one(None, None, number), self.one(None, None, at))

    def group(self):
        """One action, or some that belong together."""
        i = self.one(0, 0, 1)
        clear = ("set", ("global", i), ("int", 0))
        opened = ("set", ("global", i), ("spec",))
        small = (self.one("trace", "say"), (self.leaf("int"), self.leaf("str")))
        plain = (self.one("trace", "say"), (("now",), ("tid",)))
        return self.one(
            (self.action(),), (self.action(),), (small,), (plain,),
            (opened, ("speculate", ("global", i)), small, self.one(plain, small)),
            (("speculate", ("global", i)), plain, small), (("speculate", self.one(("spec",), ("int", 0))), plain),
            (("commit", ("global", i)), clear), (("discard", ("global", i)), clear),
            (opened, ("speculate", ("global", i)), plain, ("commit", ("global", i)), clear, small),
            (("set", ("thread", 1), self.one(("int", 0), ("now",), ("op", "+", ("thread", 1), ("int", 1)))),),
            (("set", ("array", 0, (self.one(("at",), ("arg", 0), ("tid",)),)), self.one(("int", 0), ("now",), ("int", 1))),),
            (("put", 5, (("name",),), None), ("put", 1, (self.one(("tid",), ("at",)),), self.leaf("int"))),
            (("put", 4, (("cpu",),), ("now",)),), self.one((plain,), (plain,), (plain, ("stop",))))


def session_script(seed):
    return SessionDrawn(seed, depth=seed % 4).script()
