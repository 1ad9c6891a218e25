"""Points 9.1 to 9.4: what a session does, clause by clause; all examples in all ways to run them."""

import unittest

from drawn_scripts import of_session

from tapline.check import typed_script
from tapline.compile_clause import compile_clause
from tapline.run import codes_of
from tapline.session import Session

MEMORY = tuple(range(256))
LARGE = (2, 1000, "hold", 100, 100, 100, 1000)
BEGIN, CLOSE = of_session("begin"), of_session("close", 90)


def number(n):
    return ("int", n)


def text(s):
    return ("str", s)


def at(cpu, time, call=0, tid=0):
    """The view of a system call of a thread on a processor."""
    return (("entry", cpu, time, 1, tid, 9, (call, 1, 2)), (call, 1, 2, 3), MEMORY)


def tick(cpu, time):
    return (("tick", cpu, time, -1, -1, -1, ()), (0, 0, 0, 0), ())


def sized(**changes):
    """The large sizes with changes."""
    names = ("cpus", "room", "policy", "cells", "table_cells", "places", "spec_room")
    return tuple(changes.get(name, size) for name, size in zip(names, LARGE))


class Sessions(unittest.TestCase):
    def each(self, words, sizes=LARGE):
        """The sessions for all ways to run the script of a text."""
        script = typed_script(words)
        ways = (None, tuple(compile_clause(script, k) for k in range(len(script[4]))), codes_of(script))
        return [Session(script, sizes, codes) for codes in ways]

    def run_views(self, session, *views):
        for view in views:
            self.assertIsNone(session.handle(view))


class Deeds(Sessions):
    def test_at_first(self):
        for session in self.each("int n; str s; probe tick { @t = count(); n = 1; }"):
            self.assertIs(session.ended, False)
            self.assertEqual(session.lost(), (0, 0, 0, 0))
            self.assertEqual((session.lost_tries(), session.empty_calls()), ((), ()))
            self.assertEqual(session.variables(), ((number(0), text("")), (), ()))
            self.assertEqual([session.read(cpu) for cpu in (0, 1)], [(), ()])
            self.assertEqual([session.tables(cpu) for cpu in (0, 1)], [({},), ({},)])

    def test_a_script_without_clauses(self):
        for session in self.each("int n;"):
            self.run_views(session, BEGIN, tick(0, 5), CLOSE)
            self.assertEqual((session.read(0), session.tables(1), session.lost()), ((), (), (0, 0, 0, 0)))

    def test_records_go_to_the_processor_of_the_view(self):
        for session in self.each("probe tick { trace(now, \"x\"); } probe entry:4 { say(arg0); } probe tick { say(); }"):
            self.run_views(session, tick(1, 5), tick(0, 7), at(1, 8, 4), at(1, 9, 5))
            self.assertEqual(session.read(0), ((7, 0, "trace", (number(7), text("x"))), (7, 2, "say", ())))
            self.assertEqual(session.read(1), ((5, 0, "trace", (number(5), text("x"))), (5, 2, "say", ()), (8, 1, "say", (number(4),))))

    def test_begin_and_close_are_of_the_processor_0(self):
        for session in self.each("probe begin, close { trace(name, now, pid, tid, at, cpu); @t = count(); }"):
            self.run_views(session, of_session("begin", 6), tick(1, 7), CLOSE)
            minus = (number(-1),) * 3 + (number(0),)
            self.assertEqual(session.read(0), ((6, 0, "trace", (text("begin"), number(6)) + minus),
                                               (90, 0, "trace", (text("close"), number(90)) + minus)))
            self.assertEqual((session.read(1), session.tables(0), session.tables(1)), ((), ({(): 2},), ({},)))

    def test_each_deed_takes_effect_at_once(self):
        for session in self.each("""
                int n; int a[int]; thread int t;
                probe tick { n = n + 1; a[n] = n; self.t = a[n] + 1; trace(n, a[1], self.t); n = n * 10; trace(n); }
                probe tick { trace(n); n = n + 1; }"""):
            self.run_views(session, tick(0, 3))
            self.assertEqual(session.read(0), ((3, 0, "trace", (number(1), number(1), number(2))),
                                               (3, 0, "trace", (number(10),)), (3, 1, "trace", (number(10),))))
            self.assertEqual(session.variables(), ((number(11),), ((-1, 0, number(2)),), ((0, (number(1),), number(1)),)))

    def test_puts_go_to_the_processor_of_the_view(self):
        words = """probe entry { @n[pid, "x"] = count(); @s = sum(arg0); @l = least(arg0); @m = most(arg0); @h[tid] = hist(arg0); }"""
        for session in self.each(words):
            self.run_views(session, at(1, 1, 4), at(1, 2, 9, 7), at(0, 3, 2))
            key = (number(1), text("x"))
            self.assertEqual(session.tables(0), ({key: 1}, {(): 2}, {(): 2}, {(): 2}, {(number(0),): ((66, 1),)}))
            self.assertEqual(session.tables(1), ({key: 2}, {(): 13}, {(): 4}, {(): 9}, {(number(0),): ((67, 1),), (number(7),): ((68, 1),)}))

    def test_what_was_told_may_be_changed(self):
        for session in self.each("probe tick { @n = count(); trace(1); }"):
            self.run_views(session, tick(0, 1))
            told = session.tables(0)
            told[0][()] = 99
            told[0][(number(1),)] = 1
            self.assertEqual(session.tables(0), ({(): 1},))
            for told in (session.read(0), session.variables(), session.lost(), session.lost_tries(), session.empty_calls(), session.tables(0)):
                self.assertIs(type(told), tuple)

    def test_faults(self):
        for session in self.each("""
                int n; probe tick { n = n + 1; say(n); n = 5 / 0; n = 99; } probe tick when byte(0) { say("no"); }
                probe tick { say(cat("LONG", "x")); }
                probe tick { speculate(7); } probe tick { say("yes"); }""".replace("LONG", "q" * 32)):
            self.run_views(session, tick(1, 6))
            self.assertEqual(session.read(1), (
                (6, 0, "say", (number(1),)), (6, 0, "fault", (text("division"),)), (6, 1, "fault", (text("byte"),)),
                (6, 2, "fault", (text("long"),)), (6, 3, "fault", (text("speculation"),)), (6, 4, "say", (text("yes"),))))
            self.assertEqual((session.variables()[0], session.ended), ((number(1),), False))


class Losses(Sessions):
    def test_records(self):
        words = "probe entry { trace(arg0, \"abc\"); say(); }"
        for session in self.each(words, sized(room=9)):
            self.run_views(session, at(0, 1), at(0, 2), at(1, 3), at(0, 4))
            record, short = ("trace", (number(0), text("abc"))), ("say", ())
            self.assertEqual(session.lost(), (4, 0, 0, 0))
            self.assertEqual(session.read(0), ((1, 0) + record, (1, 0) + short, ("lost", 4)))
            self.assertEqual(session.read(1), ((3, 0) + record, (3, 0) + short))
        for session in self.each(words, sized(room=9, policy="ring")):
            self.run_views(session, at(0, 1), at(0, 2), at(1, 3), at(0, 4))
            self.assertEqual((session.lost(), session.read(0)), ((4, 0, 0, 0), (("lost", 4), (4, 0) + record, (4, 0) + short)))

    def test_faults_may_be_lost(self):
        for session in self.each("int n; probe tick { n = 1 / n; }", sized(room=10)):
            self.run_views(session, tick(0, 1))
            self.assertEqual((session.read(0), session.lost()), ((("lost", 1),), (1, 0, 0, 0)))

    def test_tries(self):
        words = "int a[int]; thread int t; probe entry { self.t = arg0; a[tid] = arg0; a[tid] = a[tid] + 1; trace(self.t, a[tid]); }"
        for session in self.each(words, sized(cells=1)):
            self.run_views(session, at(0, 1, 4, 0), at(0, 2, 5, 1), at(0, 3, 0, 0), at(0, 4, 6, 1))
            self.assertEqual(session.lost_tries(), (3, 4, 5, 10, 11))
            self.assertEqual(session.lost(), (0, 5, 0, 0))
            self.assertEqual([record[3] for record in session.read(0)],
                             [(number(4), number(5)), (number(0), number(0)), (number(0), number(1)), (number(6), number(0))])
            self.assertEqual(session.variables(), ((), ((1, 0, number(6)),), ((0, (number(0),), number(1)),)))

    def test_no_cells(self):
        for session in self.each("int n; thread str t; probe tick { n = n + 1; self.t = \"x\"; self.t = \"\"; }", sized(cells=0)):
            self.run_views(session, tick(0, 1), tick(1, 2))
            self.assertEqual((session.variables(), session.lost_tries()), (((number(2),), (), ()), (0, 2)))

    def test_puts(self):
        for session in self.each("probe entry { @a[tid] = count(); @b = sum(arg0); }", sized(table_cells=1)):
            self.run_views(session, at(0, 1, 4, 0), at(0, 2, 4, 1), at(1, 3, 4, 1), at(0, 4, 4, 0), at(0, 5, 4, 2))
            self.assertEqual(session.lost(), (0, 0, 0, 2))
            self.assertEqual((session.tables(0), session.tables(1)), (({(number(0),): 2}, {(): 16}), ({(number(1),): 1}, {(): 4})))
        for session in self.each("probe entry { @a[tid] = count(); @b = sum(arg0); }", sized(table_cells=0)):
            self.run_views(session, at(0, 1), at(1, 2))
            self.assertEqual((session.lost(), session.tables(0), session.tables(1)), ((0, 0, 0, 4), ({}, {}), ({}, {})))

    def test_calls(self):
        for session in self.each("int n; probe tick { n = spec(); trace(n); }", sized(places=2)):
            self.run_views(session, *[tick(0, k) for k in range(4)])
            self.assertEqual((session.empty_calls(), session.lost()), ((2, 3), (0, 0, 2, 0)))
            self.assertEqual([record[3] for record in session.read(0)], [(number(n),) for n in (1, 2, 0, 0)])

    def test_an_empty_call_uses_up_no_number(self):
        words = "int n; probe tick { n = spec(); say(n); } probe entry { discard(1); }"
        for session in self.each(words, sized(places=1)):
            self.run_views(session, tick(0, 1), tick(0, 2), at(0, 3), tick(0, 4), tick(0, 5))
            self.assertEqual(([record[3] for record in session.read(0)], session.empty_calls()),
                             ([(number(n),) for n in (1, 0, 2, 0)], (1, 3)))


class Speculating(Sessions):
    WORDS = """
        int n;
        probe entry:1 { n = spec(); speculate(n); trace(now); }
        probe entry:2 { speculate(n); say(now); }
        probe entry:3 { commit(n); n = 0; }
        probe entry:4 { discard(n); n = 0; }
        probe tick { trace(0); }"""

    def record(self, time, clause, sort="trace", value=None):
        return (time, clause, sort, (number(time if value is None else value),))

    def test_a_commit_on_another_processor(self):
        for session in self.each(self.WORDS):
            self.run_views(session, at(0, 11, 1), tick(0, 12), tick(1, 5), at(1, 6, 2), tick(1, 7))
            self.assertEqual(session.read(0), (self.record(12, 4, value=0),))
            self.run_views(session, at(1, 8, 3), tick(1, 9))
            self.assertEqual(session.read(1), (
                self.record(5, 4, value=0), self.record(7, 4, value=0), self.record(11, 0), self.record(6, 1, "say"), self.record(9, 4, value=0)))
            self.assertEqual((session.read(0), session.lost()), ((), (0, 0, 0, 0)))

    def test_a_discard(self):
        for session in self.each(self.WORDS):
            self.run_views(session, at(0, 1, 1), at(0, 2, 2), at(0, 3, 4), at(0, 4, 3))
            self.assertEqual((session.read(0), session.lost()), ((), (0, 0, 0, 0)))

    def test_records_vanish_without_a_speculation(self):
        for session in self.each(self.WORDS, sized(places=0)):
            self.run_views(session, at(0, 1, 1), at(0, 2, 2), at(0, 3, 3), tick(0, 4))
            self.assertEqual((session.read(0), session.lost()), ((self.record(4, 4, value=0),), (0, 0, 1, 0)))

    def test_a_speculation_in_which_records_do_not_fit(self):
        for session in self.each(self.WORDS, sized(spec_room=5)):
            self.run_views(session, at(0, 1, 1), at(0, 2, 2), at(0, 3, 2))
            self.assertEqual(session.lost(), (2, 0, 0, 0))
            self.run_views(session, at(0, 4, 3))
            self.assertEqual((session.read(0), session.lost()), ((self.record(1, 0), ("lost", 2)), (2, 0, 0, 0)))
        for session in self.each(self.WORDS, sized(spec_room=0)):
            self.run_views(session, at(0, 1, 1), at(0, 2, 2), at(0, 4, 3))
            self.assertEqual((session.read(0), session.lost()), ((("lost", 2),), (2, 0, 0, 0)))

    def test_a_commit_into_a_buffer_in_which_it_does_not_fit(self):
        for session in self.each(self.WORDS, sized(room=5, spec_room=6)):
            self.run_views(session, at(0, 1, 1), at(0, 2, 2), at(0, 3, 2), at(0, 4, 3), tick(0, 5))
            self.assertEqual((session.read(0), session.lost()), ((("lost", 3), self.record(5, 4, value=0)), (3, 0, 0, 0)))

    def test_a_record_into_what_this_clause_has_committed(self):
        words = "int n; probe tick { n = spec(); speculate(n); say(1); commit(n); say(2); speculate(spec()); say(3); }"
        for session in self.each(words):
            self.run_views(session, tick(1, 4))
            self.assertEqual(session.read(1), tuple((4, 0, "say", (number(k),)) for k in (1, 2)))
        words = "int n; probe tick { n = spec(); speculate(n); say(1); discard(n); say(2); say(3); }"
        for session in self.each(words):
            self.run_views(session, tick(1, 4))
            self.assertEqual(session.read(1), tuple((4, 0, "say", (number(k),)) for k in (2, 3)))

    def test_a_fault_within_a_speculation(self):
        """It goes to the buffer, and what the speculation has stays there."""
        words = "int n; probe tick { n = spec(); speculate(n); say(1); say(byte(0)); } probe entry { commit(n); }"
        for session in self.each(words):
            self.run_views(session, tick(0, 4))
            self.assertEqual(session.read(0), ((4, 0, "fault", (text("byte"),)),))
            self.run_views(session, at(0, 5))
            self.assertEqual(session.read(0), ((4, 0, "say", (number(1),)),))

    def test_a_speculation_that_is_open_no_more(self):
        for session in self.each("probe begin { commit(spec()); commit(1); say(1); } probe close { speculate(1); }"):
            self.run_views(session, BEGIN, CLOSE)
            self.assertEqual(session.read(0), ((0, 0, "fault", (text("speculation"),)), (90, 1, "fault", (text("speculation"),))))


class Ending(Sessions):
    WORDS = "int n; probe entry { n = n + 1; say(n); stop(); say(99); } probe entry, tick { say(2); } probe close { say(3); } probe close { say(4); }"

    def test_a_stop(self):
        for session in self.each(self.WORDS):
            self.run_views(session, tick(0, 1))
            self.assertIs(session.ended, False)
            self.run_views(session, at(1, 2))
            self.assertIs(session.ended, True)
            self.run_views(session, tick(0, 3), at(1, 4))
            self.assertEqual(session.read(0), ((1, 1, "say", (number(2),)),))
            self.assertEqual(session.read(1), ((2, 0, "say", (number(1),)),))
            self.run_views(session, CLOSE)
            self.assertEqual(session.read(0), ((90, 2, "say", (number(3),)), (90, 3, "say", (number(4),))))
            self.assertEqual((session.ended, session.variables()), (True, ((number(1),), (), ())))

    def test_a_stop_at_close(self):
        for session in self.each("probe tick { stop(); } probe close { say(1); stop(); } probe close { say(2); }"):
            self.run_views(session, tick(0, 1), CLOSE)
            self.assertEqual(session.read(0), ((90, 1, "say", (number(1),)),))
        for session in self.each("probe close { say(1); stop(); } probe close { say(2); }"):
            self.run_views(session, tick(0, 1), CLOSE)
            self.assertEqual((session.read(0), session.ended), (((90, 0, "say", (number(1),)),), True))

    def test_a_stop_at_begin(self):
        for session in self.each("probe begin { stop(); } probe begin, tick { say(1); } probe close { say(2); }"):
            self.run_views(session, BEGIN, tick(0, 1))
            self.assertEqual((session.ended, session.read(0)), (True, ()))
            self.run_views(session, CLOSE)
            self.assertEqual(session.read(0), ((90, 2, "say", (number(2),)),))

    def test_a_fault_or_a_false_predicate_does_not_end(self):
        for session in self.each("probe tick { say(byte(0)); stop(); } probe tick when 0 { stop(); } probe tick { trace(); }"):
            self.run_views(session, tick(0, 1), tick(0, 2))
            self.assertIs(session.ended, False)
            self.assertEqual(len(session.read(0)), 4)


class Reading(Sessions):
    def test_readings_at_any_moment(self):
        for session in self.each("probe tick { say(now); }", sized(room=6)):
            self.assertEqual(session.read(0), ())
            for k in range(3):
                self.run_views(session, *[tick(0, 10 * k + j) for j in range(3)])
                self.assertEqual(session.read(0), ((10 * k, 0, "say", (number(10 * k),)), (10 * k + 1, 0, "say", (number(10 * k + 1),)), ("lost", 1)))
                self.assertEqual(session.read(0), ())
            self.assertEqual(session.lost(), (3, 0, 0, 0))

    def test_the_codes_are_those_that_run(self):
        script, other = typed_script("probe tick { say(1); } probe tick { say(2); }"), typed_script("probe tick { say(7); } probe tick { stop(); }")
        session = Session(script, LARGE, codes_of(other))
        self.run_views(session, tick(0, 1))
        self.assertEqual((session.read(0), session.ended), (((1, 0, "say", (number(7),)),), True))

    def test_two_do_not_touch_each_other(self):
        script = typed_script("int n; probe tick { n = n + 1; say(n); @t = count(); n = n + 0 * spec(); }")
        first, second = Session(script, LARGE, None), Session(script, LARGE, None)
        self.run_views(first, tick(0, 1), tick(0, 2))
        self.assertEqual((second.variables()[0], second.read(0), second.tables(0)), ((number(0),), (), ({},)))


if __name__ == "__main__":
    unittest.main()
