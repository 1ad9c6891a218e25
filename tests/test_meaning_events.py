"""Points 5.2 and 5.3: the events of a session, and what patterns name."""

import unittest

from tapline.check import EVENTS, typed_script
from tapline.meaning import Meaning, names_event, number_of

ARGS = {"insn": (10,), "entry": (5, 600, 70), "return": (6, 65535), "fault": (99,), "on": (), "off": (3,), "end": (8,),
        "done": (4,), "tick": (), "begin": (), "close": ()}


def event_of(kind, pid=2, tid=3, at=40):
    if kind in ("tick", "begin", "close"):
        return (kind, 0, 9, -1, -1, -1, ())
    return (kind, 1, 9, pid, tid, at, ARGS[kind])


class Numbers(unittest.TestCase):
    def test_of_each_kind(self):
        for kind, number in (("insn", 2), ("entry", 5), ("return", 6), ("fault", 2), ("on", 2), ("off", 2), ("end", 2),
                             ("done", 2), ("tick", -1), ("begin", -1), ("close", -1)):
            self.assertEqual(number_of(event_of(kind)), number, kind)

    def test_the_number_of_a_process_0_and_of_a_call_0(self):
        self.assertEqual(number_of(("insn", 1, 9, 0, 3, 40, (10,))), 0)
        self.assertEqual(number_of(("entry", 1, 9, 2, 3, 40, (0, 7, 8))), 0)


class Patterns(unittest.TestCase):
    def check(self, pattern, event, named):
        self.assertIs(names_event(pattern, event), named, (pattern, event))

    def test_the_kind_alone(self):
        kinds = EVENTS + ("begin", "close")
        for one in kinds:
            for other in kinds:
                self.check((one, None, None), event_of(other), one == other)

    def test_with_a_number(self):
        for kind in ("insn", "fault", "on", "off", "end", "done"):
            self.check((kind, 2, None), event_of(kind), True)
            self.check((kind, 3, None), event_of(kind), False)
            self.check((kind, 0, None), event_of(kind), False)
            self.check((kind, 0, None), event_of(kind, pid=0), True)
        for kind, number in (("entry", 5), ("return", 6)):
            self.check((kind, number, None), event_of(kind), True)
            self.check((kind, 2, None), event_of(kind), False)
            self.check((kind, 0, None), event_of(kind), False)

    def test_with_an_at(self):
        for kind in ("insn", "entry", "return", "fault", "on", "off", "end", "done"):
            self.check((kind, None, 40), event_of(kind), True)
            self.check((kind, None, 41), event_of(kind), False)
            self.check((kind, None, 0), event_of(kind), False)
            self.check((kind, None, 0), event_of(kind, at=0), True)

    def test_with_both(self):
        for number, at, named in ((2, 40, True), (2, 41, False), (3, 40, False), (3, 41, False)):
            self.check(("insn", number, at), event_of("insn"), named)
        for number, at, named in ((5, 40, True), (5, 41, False), (2, 40, False)):
            self.check(("entry", number, at), event_of("entry"), named)

    def test_a_tick_has_no_process_and_no_at(self):
        for number, at in ((0, None), (1, None), (None, 0), (None, 255), (0, 0)):
            self.check(("tick", number, at), event_of("tick"), False)
        self.check(("tick", None, None), event_of("tick"), True)
        self.check(("tick", -1, -1), event_of("tick"), True)


class EventsOfASession(unittest.TestCase):
    def test_begin_and_close(self):
        script = typed_script("probe begin { trace(name, now, cpu, pid, tid, at, r0, r3, arg0); } probe close { say(now); }")
        meaning = Meaning(script, (), ())
        values = (("str", "begin"), ("int", 7), ("int", 0), ("int", -1), ("int", -1), ("int", -1), ("int", 0), ("int", 0),
                  ("int", 0))
        view = (("begin", 0, 7, -1, -1, -1, ()), (0, 0, 0, 0), ())
        self.assertEqual(meaning.handle(view), ((0, (("record", None, "trace", values),)),))
        view = (("close", 0, 12, -1, -1, -1, ()), (0, 0, 0, 0), ())
        self.assertEqual(meaning.handle(view), ((1, (("record", None, "say", (("int", 12),)),)),))

    def test_no_bytes_at_begin(self):
        meaning = Meaning(typed_script("probe begin { trace(byte(0)); }"), (), ())
        view = (("begin", 0, 7, -1, -1, -1, ()), (0, 0, 0, 0), ())
        self.assertEqual(meaning.handle(view), ((0, (("fault", "byte"),)),))


if __name__ == "__main__":
    unittest.main()
