"""Points 9.5 to 9.7: scripts that are put in and taken out, and their stops."""

import unittest

from tapline.check import typed_script
from tapline.machine import Machine
from tapline.run import codes_of
from tapline.session import Session
from tapline.stops import StoppedMachine
from tapline.trace import Tracer

# An endless loop at the addresses 0 to 4, in two processes; in the second one a longer one.
PROGRAMS = ((1, 0, 5, 7, 0), (1, 1, 3, 2, 1, 7, 0))
RATES = (3, 10)
SIZES = (2, 1000, "hold", 100, 100, 100, 1000)


def tracer_of(programs=PROGRAMS, rates=RATES):
    return Tracer(programs, rates)


def put(tracer, words, sizes=SIZES, coded=True):
    script = typed_script(words)
    return tracer.put_in(script, sizes, codes_of(script) if coded else None)


def number(n):
    return ("int", n)


def all_stops(*pids):
    return [(pid, at) for pid in pids for at in range(256)]


class Numbers(unittest.TestCase):
    def test_at_first(self):
        tracer = tracer_of()
        self.assertIsInstance(tracer.machine, StoppedMachine)
        self.assertEqual(tracer.machine.stops(), [])
        self.assertEqual(tracer.machine.state(), Machine(PROGRAMS, RATES).state())
        self.assertEqual([tracer.is_in(n) for n in (-1, 0, 1)], [False, False, False])

    def test_numbers_from_0_on(self):
        tracer = tracer_of()
        self.assertEqual([put(tracer, "probe tick { say(1); }") for _ in range(3)], [0, 1, 2])
        self.assertIsNone(tracer.take_out(1))
        self.assertEqual(put(tracer, "probe tick { say(1); }"), 3)
        self.assertEqual([tracer.is_in(n) for n in range(-1, 5)], [False, True, False, True, True, False])
        self.assertIs(tracer.is_in(0), True)
        self.assertIs(tracer.is_in(1), False)
        for n in range(4):
            self.assertIsInstance(tracer.session(n), Session)
            self.assertIs(tracer.session(n), tracer.session(n))
        self.assertEqual(len({id(tracer.session(n)) for n in range(4)}), 4)

    def test_taking_out_what_is_not_in(self):
        tracer = tracer_of()
        self.assertIsNone(tracer.take_out(0))
        put(tracer, "probe close { say(1); } probe insn:0:4 { }")
        for n in (-1, 1, 100):
            self.assertIsNone(tracer.take_out(n))
        self.assertEqual((tracer.is_in(0), tracer.session(0).read(0)), (True, ()))
        for _ in range(3):
            tracer.take_out(0)
        self.assertEqual(len(tracer.session(0).read(0)), 1)
        self.assertEqual((tracer.is_in(0), tracer.machine.stops()), (False, []))


class Views(unittest.TestCase):
    WORDS = "probe begin, on, tick, insn:0:3, close { trace(name, now, cpu, pid, at); }"

    def test_from_begin_to_close(self):
        tracer = tracer_of()
        tracer.step((0, "timer"))
        tracer.step((1, "timer"))
        put(tracer, self.WORDS)
        views = [tracer.step(pick) for pick in ((0, "step"), (0, "step"), (0, "step"), (1, "timer"))]
        tracer.take_out(0)
        tracer.step((0, "timer"))
        self.assertEqual([[view[0][0] for view in told] for told in views], [["on"], [], ["insn"], ["tick"]])
        shown = [[value[1] for value in record[3]] for record in tracer.session(0).read(0)]
        self.assertEqual(shown, [["begin", 3, 0, -1, -1], ["on", 6, 0, 0, 0], ["insn", 12, 0, 0, 3], ["close", 12, 0, -1, -1]])
        self.assertEqual([record[0] for record in tracer.session(0).read(1)], [20])

    def test_the_time_is_that_of_the_processor_0(self):
        tracer = tracer_of()
        put(tracer, "probe begin, close { trace(now); }")
        for _ in range(4):
            tracer.step((1, "timer"))
        put(tracer, "probe begin, close { trace(now); }")
        tracer.step((0, "timer"))
        tracer.take_out(1)
        tracer.take_out(0)
        for n in (0, 1):
            self.assertEqual(tracer.session(n).read(0), ((0, 0, "trace", (number(0),)), (3, 0, "trace", (number(3),))))

    def test_what_begin_and_close_show(self):
        tracer = tracer_of()
        tracer.step((0, "step"))
        put(tracer, """probe begin, close { trace(cpu, pid, tid, at, r0, r1, r2, r3, arg0, arg1, arg2, arg3); trace(byte(0)); }
            probe begin, close { self.t = self.t + 1; trace(self.t); } thread int t;""")
        tracer.step((0, "step"))
        tracer.take_out(0)
        shown = (0, -1, -1, -1, 0, 0, 0, 0, 0, 0, 0, 0)
        fault = (("str", "byte"),)
        self.assertEqual([record[3] for record in tracer.session(0).read(0)], [
            tuple(number(n) for n in shown), fault, (number(1),), tuple(number(n) for n in shown), fault, (number(2),)])
        self.assertEqual(tracer.session(0).variables(), ((), ((-1, 0, number(2)),), ()))

    def test_what_step_returns(self):
        tracer, machine = tracer_of(), StoppedMachine(PROGRAMS, RATES)
        put(tracer, "probe insn:1:3, insn:0:0 { }")
        machine.set_stop(1, 3)
        machine.set_stop(0, 0)
        for k in range(40):
            pick = (k % 2, "timer" if k % 11 == 10 else "step")
            views = tracer.step(pick)
            self.assertIs(type(views), tuple)
            self.assertEqual(list(views), machine.step(pick))

    def test_views_of_other_sessions_stops_change_nothing(self):
        tracer = tracer_of()
        put(tracer, "probe insn:0:0 { say(at); }")
        put(tracer, "probe insn { }")
        for _ in range(6):
            tracer.step((0, "step"))
        self.assertEqual([record[3] for record in tracer.session(0).read(0)], [(number(0),)] * 3)

    def test_sessions_that_are_out_can_be_read(self):
        tracer = tracer_of()
        put(tracer, "int n; probe tick { n = n + 1; say(n); @t = count(); }")
        tracer.step((0, "timer"))
        tracer.take_out(0)
        tracer.step((0, "timer"))
        session = tracer.session(0)
        self.assertEqual((session.read(0), session.read(0)), (((3, 0, "say", (number(1),)),), ()))
        self.assertEqual((session.tables(0), session.variables()), (({(): 1},), ((number(1),), (), ())))

    def test_the_same_script_twice(self):
        tracer = tracer_of()
        for coded in (True, False):
            put(tracer, "int n; probe tick { n = n + 1; say(n); }", coded=coded)
            tracer.step((0, "timer"))
        self.assertEqual([[value[1] for (value,) in [record[3] for record in tracer.session(n).read(0)]] for n in (0, 1)], [[1, 2], [1]])


class Stops(unittest.TestCase):
    def stops_for(self, words):
        tracer = tracer_of()
        put(tracer, words)
        return tracer.machine.stops()

    def test_patterns(self):
        self.assertEqual(self.stops_for("probe insn:1:3 { }"), [(1, 3)])
        self.assertEqual(self.stops_for("probe insn:0:255, insn:1:0 { }"), [(0, 255), (1, 0)])
        self.assertEqual(self.stops_for("probe insn:*:7 { }"), [(0, 7), (1, 7)])
        self.assertEqual(self.stops_for("probe insn:1 { }"), all_stops(1))
        self.assertEqual(self.stops_for("probe insn:0:* { }"), all_stops(0))
        self.assertEqual(self.stops_for("probe insn { }"), all_stops(0, 1))
        self.assertEqual(self.stops_for("probe insn:*:* { }"), all_stops(0, 1))

    def test_numbers_and_ats_that_are_none(self):
        for words in ("insn:2:3", "insn:2", "insn:0:256", "insn:*:256", "insn:9223372036854775807:9223372036854775807"):
            self.assertEqual(self.stops_for(f"probe {words} {{ }}"), [])

    def test_other_kinds(self):
        self.assertEqual(self.stops_for("probe entry:1:3, return:0, fault, on:1:7, off, end:0:0, done, tick, begin, close { }"), [])

    def test_a_predicate_and_several_clauses(self):
        self.assertEqual(self.stops_for("probe tick, insn:0:1 when 0 { } probe tick { } probe insn:0:2, insn:0:1 { }"), [(0, 1), (0, 2)])

    def test_two_scripts_at_one_place(self):
        tracer = tracer_of()
        put(tracer, "probe insn:0:0, insn:0:3 { say(1); }")
        put(tracer, "probe insn:0:3, insn:1:1 { say(2); }")
        self.assertEqual(tracer.machine.stops(), [(0, 0), (0, 3), (1, 1)])
        tracer.take_out(0)
        self.assertEqual(tracer.machine.stops(), [(0, 3), (1, 1)])
        for _ in range(5):
            tracer.step((0, "step"))
        self.assertEqual((tracer.session(0).read(0), len(tracer.session(1).read(0))), ((), 2))
        put(tracer, "probe insn:0 { }")
        self.assertEqual(tracer.machine.stops(), all_stops(0) + [(1, 1)])
        tracer.take_out(1)
        self.assertEqual(tracer.machine.stops(), all_stops(0))
        tracer.take_out(2)
        self.assertEqual(tracer.machine.stops(), [])
        self.assertEqual(tracer.machine.raw_memory(0), Machine(PROGRAMS, RATES).state()[0][0])

    def test_the_bytes_under_stops(self):
        tracer = tracer_of()
        put(tracer, "probe insn:0:3 { }")
        self.assertEqual(tracer.machine.raw_memory(0)[:5], (1, 0, 5, 255, 0))
        self.assertEqual(tracer.machine.state(), Machine(PROGRAMS, RATES).state())

    def test_an_ended_session_stays_in(self):
        tracer = tracer_of()
        put(tracer, "probe insn:0:3 { say(at); stop(); } probe close { say(99); }")
        for _ in range(8):
            tracer.step((0, "step"))
        self.assertEqual((tracer.session(0).ended, tracer.is_in(0), tracer.machine.stops()), (True, True, [(0, 3)]))
        tracer.take_out(0)
        self.assertEqual((tracer.is_in(0), tracer.machine.stops()), (False, []))
        self.assertEqual([record[3] for record in tracer.session(0).read(0)], [(number(3),), (number(99),)])

    def test_ended_at_begin(self):
        tracer = tracer_of()
        put(tracer, "probe begin { stop(); } probe insn:0:3 { say(1); }")
        self.assertEqual((tracer.session(0).ended, tracer.is_in(0), tracer.machine.stops()), (True, True, [(0, 3)]))
        for _ in range(8):
            tracer.step((0, "step"))
        self.assertEqual(tracer.session(0).read(0), ())


if __name__ == "__main__":
    unittest.main()
