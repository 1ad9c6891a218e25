"""Points 11.1 and 11.2: whole runs; by them also 0.3 and 9.8."""

import random
import unittest
from unittest.mock import patch

from model import drawn_run
from sessions import LimitedSession, drawn_sizes

from tapline.aggregates import kept, merge
from tapline.check import typed_script
from tapline.compile_clause import compile_clause
from tapline.errors import BadQuote, UnknownName, Unexpected, WrongKind
from tapline.judge import may_run
from tapline.lines import line_of, table_lines
from tapline.machine import Machine
from tapline.optimise import optimise
from tapline.run import codes_of, run_texts

PROGRAMS = ((1, 0, 5, 7, 0), (1, 0, 7, 10, 0))
RATES = (3, 10)
LARGE = (1000, "hold", 100, 100, 100, 1000)
TICKS = "int n; probe begin, tick, close { n = n + 1; say(name, \" \", n); @t[name] = count(); }"
STEPS = [("pick", 0, "step")] * 3


def state_behind(deeds, programs=PROGRAMS, rates=RATES):
    machine = Machine(programs, rates)
    for deed in deeds:
        if deed[0] == "pick" and deed[1] < len(rates):
            machine.step(deed[1:])
    return machine.state()


def run(texts, deeds, coded=True, programs=PROGRAMS):
    return run_texts(programs, RATES, texts, deeds, coded=coded)


class Codes(unittest.TestCase):
    def test_one_for_each_clause(self):
        script = typed_script("int n; probe tick { n = 1 + 2; } probe end when n { int i; i = n; trace(i * 2); } probe on { }")
        codes = codes_of(script)
        self.assertIs(type(codes), tuple)
        self.assertEqual(codes, tuple(optimise(compile_clause(script, k))[0] for k in range(3)))
        for code, clause in zip(codes, script[4]):
            self.assertTrue(may_run(code, script, clause[2]))
        self.assertEqual(codes_of(typed_script("int n;")), ())


class Deeds(unittest.TestCase):
    def both(self, texts, deeds, programs=PROGRAMS):
        """The result of a run, which is the same with codes and without."""
        before = repr((texts, deeds))
        result = run(texts, deeds, True, programs)
        self.assertEqual(repr(run(texts, deeds, False, programs)), repr(result))
        self.assertEqual(repr(run_texts(programs, RATES, tuple(texts), deeds)), repr(result))
        self.assertEqual(repr((texts, deeds)), before)
        lines, tables, state = result
        self.assertEqual((type(result), type(lines), type(tables)), (tuple, list, list))
        self.assertEqual(state, state_behind(deeds, programs))
        return lines, tables

    def test_nothing(self):
        self.assertEqual(self.both([], []), ([], []))
        self.assertEqual(self.both([TICKS], []), ([], []))

    def test_picks(self):
        self.assertEqual(self.both([], STEPS + [("pick", 1, "timer"), ("pick", 0, "device")]), ([], []))

    def test_a_script(self):
        deeds = [("pick", 0, "timer"), ("in", 0, LARGE), ("pick", 0, "timer"), ("pick", 1, "timer"), ("read", 0, 0), ("read", 0, 1), ("out", 0)]
        deeds += [("pick", 0, "timer"), ("read", 0, 0), ("read", 0, 1), ("read", 0, 0)]
        lines, tables = self.both([TICKS], deeds)
        self.assertEqual(lines, [(0, "0 @3 0 say: begin 1"), (0, "0 @6 0 say: tick 2"), (0, "1 @10 0 say: tick 3"), (0, "0 @6 0 say: close 4")])
        self.assertEqual(tables, [(0, ("t[\"begin\"] = 1", "t[\"close\"] = 1", "t[\"tick\"] = 2"))])

    def test_a_session_that_is_in_at_the_end(self):
        lines, tables = self.both([TICKS], [("in", 0, LARGE), ("pick", 1, "timer")])
        self.assertEqual((lines, tables), ([], [(0, ("t[\"begin\"] = 1", "t[\"tick\"] = 1"))]))

    def test_instructions(self):
        words = "probe insn:*:3 { trace(pid, at, arg0, byte(3), r0); } probe insn:0:0 { say(now); stop(); }"
        deeds = [("in", 0, LARGE)] + STEPS * 3 + [("read", 0, 0)]
        self.assertEqual(self.both([words], deeds)[0], [(0, "0 @6 1 say: 6")])
        words = words.replace("stop();", "")
        self.assertEqual(self.both([words], deeds)[0], [
            (0, line) for line in ("0 @6 1 say: 6", "0 @9 0 trace: 0, 3, 7, 7, 5", "0 @12 1 say: 12", "0 @15 0 trace: 0, 3, 7, 7, 5",
                                   "0 @18 1 say: 18", "0 @21 0 trace: 0, 3, 7, 7, 5", "0 @24 1 say: 24", "0 @27 0 trace: 0, 3, 7, 7, 5")])

    def test_sizes(self):
        deeds = [("in", 0, (18, "hold", 0, 1, 0, 0)), ("in", 0, (18, "ring", 0, 1, 0, 0)), ("in", 0, (0, "ring", 0, 0, 0, 0))]
        deeds += [("pick", 0, "timer"), ("pick", 0, "timer"), ("read", 0, 0), ("read", 1, 0), ("read", 2, 0)]
        lines, tables = self.both([TICKS], deeds)
        self.assertEqual(lines, [(0, "0 @0 0 say: begin 1"), (0, "0 lost 2"), (1, "0 lost 2"), (1, "0 @6 0 say: tick 3"), (2, "0 lost 3")])
        self.assertEqual(tables, [(0, ("t[\"begin\"] = 1",)), (1, ("t[\"begin\"] = 1",)), (2, ())])

    def test_the_sizes_of_variables_and_speculations(self):
        words = """int a[int]; thread int t; int n;
            probe tick { a[now] = now; self.t = now; n = spec(); speculate(n); trace(n, a[now], self.t); trace(0); commit(n); }
            probe tick { n = spec(); trace(n); n = spec(); trace(n); }"""
        deeds = lambda *sizes: [("in", 0, (1000, "hold") + sizes), ("pick", 0, "timer"), ("pick", 0, "timer"), ("read", 0, 0)]
        shown = lambda *sizes: [line for _, line in self.both([words], deeds(*sizes))[0]]
        self.assertEqual(shown(1, 0, 2, 5), ["0 @3 0 trace: 1, 3, 3", "0 lost 1", "0 @3 1 trace: 2", "0 @3 1 trace: 3",
                                             "0 @6 1 trace: 0", "0 @6 1 trace: 0"])
        self.assertEqual(shown(2, 0, 9, 9), ["0 @3 0 trace: 1, 3, 3", "0 @3 0 trace: 0", "0 @3 1 trace: 2", "0 @3 1 trace: 3",
                                             "0 @6 0 trace: 4, 6, 6", "0 @6 0 trace: 0", "0 @6 1 trace: 5", "0 @6 1 trace: 6"])
        self.assertEqual(shown(0, 0, 1, 0), ["0 lost 2", "0 @3 1 trace: 2", "0 @3 1 trace: 0", "0 @6 1 trace: 0", "0 @6 1 trace: 0"])

    def test_the_same_text_twice(self):
        deeds = [("in", 0, LARGE), ("pick", 0, "timer"), ("in", 0, LARGE), ("pick", 0, "timer"), ("out", 0), ("pick", 0, "timer")]
        deeds += [("read", 1, 0), ("read", 0, 0)]
        lines, tables = self.both([TICKS], deeds)
        self.assertEqual(lines, [(1, "0 @3 0 say: begin 1"), (1, "0 @6 0 say: tick 2"), (1, "0 @9 0 say: tick 3"), (0, "0 @0 0 say: begin 1"),
                                 (0, "0 @3 0 say: tick 2"), (0, "0 @6 0 say: tick 3"), (0, "0 @6 0 say: close 4")])
        self.assertEqual([n for n, _ in tables], [0, 1])

    def test_several_texts(self):
        texts = ["probe begin { say(\"a\"); }", "probe begin { say(\"b\"); @t = sum(4); }", "int unused;"]
        deeds = [("in", 1, LARGE), ("in", 2, LARGE), ("in", 0, LARGE), ("in", 1, LARGE)] + [("read", n, 0) for n in range(4)]
        lines, tables = self.both(texts, deeds)
        self.assertEqual(lines, [(0, "0 @0 0 say: b"), (2, "0 @0 0 say: a"), (3, "0 @0 0 say: b")])
        self.assertEqual(tables, [(0, ("t = 4",)), (1, ()), (2, ()), (3, ("t = 4",))])

    def test_what_does_not_exist(self):
        deeds = [("read", 0, 0), ("out", 0), ("in", 1, LARGE), ("in", 7, LARGE), ("pick", 2, "step"), ("pick", 9, "timer"), ("read", 0, 0)]
        self.assertEqual(self.both([TICKS], deeds), ([], []))
        self.assertEqual(self.both([], [("in", 0, LARGE)]), ([], []))
        more = [("in", 0, LARGE)] + deeds[2:6] + [("read", 0, 2), ("read", 0, 5), ("read", 1, 0), ("out", 1), ("out", 30)]
        lines, tables = self.both([TICKS], more + [("pick", 1, "timer"), ("read", 0, 0), ("read", 0, 1)])
        self.assertEqual(lines, [(0, "0 @0 0 say: begin 1"), (0, "1 @10 0 say: tick 2")])

    def test_taking_out_twice_and_reading_behind_it(self):
        deeds = [("in", 0, LARGE), ("out", 0), ("out", 0), ("pick", 0, "timer"), ("out", 0), ("read", 0, 0), ("read", 0, 0)]
        lines, tables = self.both([TICKS], deeds)
        self.assertEqual(lines, [(0, "0 @0 0 say: begin 1"), (0, "0 @0 0 say: close 2")])
        self.assertEqual(tables, [(0, ("t[\"begin\"] = 1", "t[\"close\"] = 1"))])

    def test_tables_of_all_processors(self):
        words = "probe tick { @b[cpu] = count(); @a = sum(now); @l = least(now); @m = most(now); @h = hist(now); }"
        deeds = [("in", 0, LARGE)] + [("pick", cpu, "timer") for cpu in (0, 1, 0, 1, 0)]
        self.assertEqual(self.both([words], deeds)[1], [(0, ("b[0] = 3", "b[1] = 2", "a = 48", "l = 3", "m = 20", "h = 66:1 67:1 68:2 69:1"))])

    def test_negative_numbers_name_nothing(self):
        deeds = [("in", 0, LARGE), ("in", -1, LARGE), ("out", -1), ("read", -1, 0), ("read", 0, -1)]
        self.assertEqual(self.both([TICKS], deeds), ([], [(0, ("t[\"begin\"] = 1",))]))
        self.assertEqual(run([TICKS], [("pick", -1, "step")]), run([TICKS], []))

    def test_which_way_clauses_run(self):
        """Both ways give the same, so the codes are watched as they are made, and exchanged."""
        deeds = [("in", 0, LARGE), ("read", 0, 0)]
        other = codes_of(typed_script(TICKS.replace("n + 1", "n + 40")))
        with patch("tapline.run.codes_of", return_value=other) as made:
            self.assertEqual(run_texts(PROGRAMS, RATES, [TICKS], deeds)[0], [(0, "0 @0 0 say: begin 40")])
            self.assertEqual(run_texts(PROGRAMS, RATES, [TICKS], deeds, coded=True)[0], [(0, "0 @0 0 say: begin 40")])
            made.assert_called_with(typed_script(TICKS))
            self.assertEqual(run_texts(PROGRAMS, RATES, [TICKS], deeds, coded=False)[0], [(0, "0 @0 0 say: begin 1")])

    def test_deeds_of_a_tuple(self):
        self.assertEqual(run([TICKS], tuple(STEPS)), run([TICKS], STEPS))


class Errors(unittest.TestCase):
    def test_an_error_of_a_text(self):
        for coded in (True, False):
            for words, error in (("probe {", Unexpected), ("probe tick { say(\"); }", BadQuote), ("probe tick { n = 1; }", UnknownName),
                                 ("probe tick when \"x\" { }", WrongKind)):
                with self.assertRaises(error):
                    run([words], [], coded)
                with self.assertRaises(error):
                    run([TICKS, words], [("in", 0, LARGE)], coded)

    def test_the_first_of_several(self):
        with self.assertRaises(UnknownName) as caught:
            run([TICKS, "probe tick { a = 1; }", "probe {", "probe tick { b = 1; }"], [])
        self.assertEqual(caught.exception.word, "a")
        with self.assertRaises(Unexpected) as caught:
            run(["\nprobe {", "probe tick { a = 1; }"], [])
        self.assertEqual((caught.exception.row, caught.exception.column), (2, 7))

    def test_ahead_of_any_deed(self):
        """Not even a deed that no machine can do is looked at."""
        class Deeds(list):
            def __iter__(self):
                raise AssertionError("a deed")

        with self.assertRaises(UnknownName):
            run([TICKS, "probe tick { a = 1; }"], Deeds())


# Programs that change their own code: the first one puts one number after the other in the place of the instruction
# at 12 and loads it from there; the second one makes a system call of the addition at 10.
CHANGING = (
    (1, 3, 1, 1, 1, 12, 2, 11, 6, 9, 5, 1, 0, 6, 6, 5, 1, 7, 3),
    (1, 2, 20, 1, 0, 10, 6, 2, 1, 3, 1, 2, 11, 4, 8, 6, 2, 7, 6),
)
WATCHING = (
    "probe insn:*:12 { trace(pid, arg0, byte(12), byte(13), r0, r1, r2); @by[arg0] = count(); }",
    "int last[int]; probe insn:1 when byte(at) != last[at] { last[at] = byte(at); say(at, \": \", byte(at)); }",
    "probe insn, fault, end { @kinds[name, pid] = count(); @places = hist(at); } probe end { say(pid, \" ended by \", arg0); }",
    "thread int since; int n; probe on { self.since = now; } probe off { @ran[tid] = sum(now - self.since); self.since = 0; }",
    "int n; probe on { n = spec(); speculate(n); trace(now, tid); } probe off { commit(n); n = 0; } probe close { discard(n); say(\"done\"); }",
    "str way; probe entry { way = cat(way, text(arg0)); trace(way); } probe return:6, return:5 { trace(arg1); stop(); } probe close { say(way); }",
)


class Follower:
    """A run by the log of the machine without tracing and the second sessions of the tests."""

    def __init__(self, programs, rates, texts):
        self.machine = Machine(programs, rates)
        self.cpus = len(rates)
        self.scripts = [typed_script(words) for words in texts]
        self.sessions, self.inside, self.lines = [], [], []

    def own_view(self, kind):
        return ((kind, 0, self.machine.state()[3][0][0], -1, -1, -1, ()), (0, 0, 0, 0), ())

    def do(self, deed):
        word, n = deed[:2]
        if word == "pick" and n < self.cpus:
            for view in self.machine.step(deed[1:]):
                for one in self.inside:
                    self.sessions[one].handle(view)
        if word == "in" and n < len(self.scripts):
            self.inside.append(len(self.sessions))
            self.sessions.append(LimitedSession(self.scripts[n], (self.cpus,) + deed[2]))
            self.sessions[-1].handle(self.own_view("begin"))
        if word == "out" and n in self.inside:
            self.inside.remove(n)
            self.sessions[n].handle(self.own_view("close"))
        if word == "read" and n < len(self.sessions) and deed[2] < self.cpus:
            self.lines += [(n, line_of(deed[2], item)) for item in self.sessions[n].read(deed[2])]

    def result(self):
        return self.lines, [(n, self.tables(session)) for n, session in enumerate(self.sessions)], self.machine.state()

    def tables(self, session):
        merged = []
        for i, (_, _, function) in enumerate(session.script[3]):
            found = [{keys: kept(function, row) for keys, row in session.numbers(cpu)[i].items()} for cpu in range(self.cpus)]
            merged.append(merge(function, found))
        return tuple(table_lines(session.script, tuple(merged)))


def drawn_deeds(chance, picks, texts, cpus):
    deeds = []
    for pick in picks:
        if chance.random() < 0.06:
            deeds.append(("in", chance.randrange(texts + 1), drawn_sizes(chance.randrange(1000))[1:]))
        if chance.random() < 0.04:
            deeds.append(("out", chance.randrange(8)))
        if chance.random() < 0.1:
            deeds.append(("read", chance.randrange(8), chance.randrange(cpus + 1)))
        deeds.append(("pick",) + pick)
        if chance.random() < 0.02:
            deeds.append(("pick", cpus, "step"))
    return deeds + [("read", n, cpu) for n in range(8) for cpu in range(cpus)]


class Compared(unittest.TestCase):
    def compare(self, programs, rates, deeds):
        follower = Follower(programs, rates, WATCHING)
        for deed in deeds:
            follower.do(deed)
        for coded in (True, False):
            self.assertEqual(run_texts(programs, rates, WATCHING, deeds, coded=coded), follower.result())
        return follower.result()

    def test_programs_that_change_their_own_code(self):
        changed, shown = 0, {}
        for seed in range(100):
            chance = random.Random(seed)
            programs = tuple(chance.choice(CHANGING) for _ in range(chance.randint(1, 4)))
            rates = tuple(chance.choice((1, 2, 7)) for _ in range(chance.randint(1, 4)))
            whats = ["step"] * chance.choice((6, 30)) + ["timer", "device"]
            picks = [(chance.randrange(len(rates)), chance.choice(whats)) for _ in range(chance.choice((60, 200)))]
            lines, _, state = self.compare(programs, rates, drawn_deeds(chance, picks, len(WATCHING), len(rates)))
            changed += any(memory != tuple(program) + (0,) * (256 - len(program)) for memory, program in zip(state[0], programs))
            for _, line in lines:
                sort = line.split(" ")[3] if "@" in line else "lost"
                shown[sort] = shown.get(sort, 0) + 1
        self.assertGreater(changed, 60)
        self.assertGreater(min(shown[sort] for sort in ("trace:", "say:", "lost")), 80, shown)

    def test_drawn_programs(self):
        for seed in range(60):
            programs, rates, picks = drawn_run(seed, 120)
            self.compare(programs, rates, drawn_deeds(random.Random(seed), picks, len(WATCHING), len(rates)))


if __name__ == "__main__":
    unittest.main()
