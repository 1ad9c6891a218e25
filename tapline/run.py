"""Whole runs: texts of scripts, and deeds on a machine and its sessions."""

from tapline.check import typed_script
from tapline.compile_clause import compile_clause
from tapline.lines import table_lines
from tapline.optimise import optimise
from tapline.reader import Reader, merge_tables
from tapline.trace import Tracer


def codes_of(script):
    """The tuple of the optimised codes of the clauses of a typed script."""
    return tuple([optimise(compile_clause(script, index))[0] for index in range(len(script[4]))])


def run_texts(programs, rates, texts, deeds, *, coded=True):
    """The triple (lines, tables, state) of a run: see point 11.2."""
    scripts = [typed_script(text) for text in texts]
    codes = [None] * len(scripts)
    if coded:
        codes = [codes_of(script) for script in scripts]
    runner = Runner(Tracer(programs, rates), len(rates), list(zip(scripts, codes)))
    for deed in deeds:
        runner.do_deed(deed)
    return runner.lines, runner.tables_at_end(), runner.tracer.machine.state()


class Runner:
    """Does deeds, and writes down the lines that are read."""

    def __init__(self, tracer, cpus, ready):
        """A tracer without sessions, the number of its processors, and the pairs of scripts and their codes."""
        self.tracer = tracer
        self.cpus = cpus
        self.ready = ready
        # The script and the reader of each session, in the order of their numbers.
        self.begun = []
        self.readers = []
        self.lines = []

    def do_deed(self, deed):
        word = deed[0]
        if word == "pick":
            self.step(deed[1:])
        elif word == "in":
            self.put_in(deed[1], deed[2])
        elif word == "out":
            self.tracer.take_out(deed[1])
        elif word == "read":
            self.read(deed[1], deed[2])

    def step(self, pick):
        if is_below(pick[0], self.cpus):
            self.tracer.step(pick)

    def put_in(self, i, sizes):
        if not is_below(i, len(self.ready)):
            return
        script, codes = self.ready[i]
        self.tracer.put_in(script, (self.cpus,) + sizes, codes)
        self.begun.append(script)
        self.readers.append(Reader(self.cpus))

    def read(self, n, cpu):
        if is_below(n, len(self.readers)) and is_below(cpu, self.cpus):
            items = self.tracer.session(n).read(cpu)
            for line in self.readers[n].take(cpu, items):
                self.lines.append((n, line))

    def tables_at_end(self):
        """The list of the pairs (n, lines of the merged tables) of all sessions."""
        return [(n, self.table_lines_of(n, script)) for n, script in enumerate(self.begun)]

    def table_lines_of(self, n, script):
        session = self.tracer.session(n)
        tables = [session.tables(cpu) for cpu in range(self.cpus)]
        return tuple(table_lines(script, merge_tables(script, tables)))


def is_below(n, many):
    """Tells whether a number is one of many things that are numbered from 0 on."""
    return 0 <= n < many
