"""The store of a session: each deed of its clauses takes effect in it at once."""

from tapline.aggregates import Aggregates
from tapline.buffers import Buffer
from tapline.speculations import Speculations
from tapline.variables import Variables


class SessionStore:
    """What a session keeps (see tapline/run_code.py for what stores are asked and told)."""

    def __init__(self, script, sizes):
        cpus, room, policy, cells, table_cells, places, spec_room = sizes
        self.cells = Variables(script, cells)
        self.speculations = Speculations(places, spec_room)
        self.buffers = [Buffer(room, policy) for _ in range(cpus)]
        self.counted = [[Aggregates(table[2], table_cells) for table in script[3]] for _ in range(cpus)]
        self.tries = Numbering()
        self.calls = Numbering()
        # The clause that is run, and the processor and time of the event at which it is.
        self.clause = 0
        self.cpu = 0
        self.time = 0

    def go_to(self, clause, event):
        """From now on a clause is run at an event."""
        self.clause = clause
        self.cpu = event[1]
        self.time = event[2]

    def global_value(self, i):
        return self.cells.global_value(i)

    def thread_value(self, tid, i):
        return self.cells.thread_value(tid, i)

    def array_value(self, i, keys):
        return self.cells.array_value(i, keys)

    def set_global(self, i, value):
        self.cells.set_global(i, value)

    def set_thread(self, tid, i, value):
        return self.tries.noted(self.cells.set_thread(tid, i, value))

    def set_array(self, i, keys, value):
        return self.tries.noted(self.cells.set_array(i, keys, value))

    def spec(self):
        return self.calls.noted(self.speculations.begin())

    def is_open(self, n):
        return self.speculations.is_open(n)

    def record(self, spec, sort, values):
        if spec is None:
            self.add_to_buffer(sort, values)
        else:
            self.speculations.add(spec, (self.time, self.clause, sort, values))

    def put(self, i, keys, n):
        self.counted[self.cpu][i].put(keys, n)

    def commit(self, n):
        self.speculations.commit(n, self.buffers[self.cpu])

    def discard(self, n):
        self.speculations.discard(n)

    def fault(self, word):
        self.add_to_buffer("fault", (("str", word),))

    def add_to_buffer(self, sort, values):
        self.buffers[self.cpu].add((self.time, self.clause, sort, values))

    def losses(self):
        """How many records, tries, calls and puts were lost."""
        records = self.speculations.lost + sum([buffer.lost for buffer in self.buffers])
        puts = sum([table.lost for tables in self.counted for table in tables])
        return records, self.cells.lost, len(self.calls.failed), puts


class Numbering:
    """Things that are numbered from 0 on in the order in which they happen, and those that failed."""

    def __init__(self):
        self.many = 0
        self.failed = []

    def noted(self, answer):
        """Numbers the next one, which failed if the answer is False or 0; gives the answer back."""
        if not answer:
            self.failed.append(self.many)
        self.many += 1
        return answer
