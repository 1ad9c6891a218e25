"""Part 3: long drawn runs, compared with a model of the same points that shares nothing with the program."""

import unittest

from model import Model, drawn_run

from tapline.log import events_of, log_of
from tapline.machine import Machine


class Compared(unittest.TestCase):
    def test_views_and_states(self):
        kinds = {}
        for seed in range(120):
            programs, rates, picks = drawn_run(seed)
            model, machine = Model(programs, rates), Machine(programs, rates)
            with self.subTest(seed=seed):
                for pick in picks:
                    views = machine.step(pick)
                    self.assertEqual(views, model.step(pick))
                    self.assertEqual(machine.state(), model.state())
                    for event, _, _ in views:
                        kinds[event[0]] = kinds.get(event[0], 0) + 1
        self.assertEqual(sorted(kinds), sorted(("insn", "entry", "return", "fault", "on", "off", "end", "done", "tick")))
        self.assertGreater(min(kinds.values()), 50)

    def test_views_that_the_caller_changes(self):
        for seed in range(20):
            programs, rates, picks = drawn_run(seed)
            model, machine = Model(programs, rates), Machine(programs, rates)
            for pick in picks:
                views = machine.step(pick)
                self.assertEqual(views, model.step(pick))
                views.reverse()
                views.append(None)
                views[0] = "x"
            self.assertEqual(machine.state(), model.state())


class Logs(unittest.TestCase):
    def test_all_views_from_the_beginning(self):
        for seed in range(20):
            programs, rates, picks = drawn_run(seed)
            machine = Machine(programs, rates)
            views = []
            for pick in picks:
                views += machine.step(pick)
            before = list(picks)
            self.assertEqual(log_of(programs, rates, picks), views)
            self.assertEqual(log_of(programs, rates, tuple(picks)), views)
            self.assertEqual(picks, before)

    def test_no_picks(self):
        self.assertEqual(log_of(((1, 2, 3),), (1,), []), [])

    def test_a_log(self):
        cells = (1, 0, 5) + (0,) * 253
        self.assertEqual(log_of(((1, 0, 5),), (2,), [(0, "step"), (0, "step"), (0, "timer")]), [
            (("on", 0, 2, 0, 0, 0, ()), (0, 0, 0, 0), cells),
            (("insn", 0, 4, 0, 0, 0, (1,)), (0, 0, 0, 0), cells),
            (("tick", 0, 6, -1, -1, -1, ()), (0, 0, 0, 0), ()),
            (("off", 0, 6, 0, 0, 3, (1,)), (5, 0, 0, 0), cells)])

    def test_events_of_a_kind(self):
        programs, rates, picks = drawn_run(3)
        views = log_of(programs, rates, picks)
        before = list(views)
        for kind in ("insn", "entry", "return", "fault", "on", "off", "end", "done", "tick", "begin", "nothing", ""):
            found = events_of(views, kind)
            self.assertIsInstance(found, list)
            self.assertEqual(found, [view[0] for view in views if view[0][0] == kind])
        self.assertEqual(views, before)
        found.append("x")
        self.assertEqual(events_of(views, ""), [])
        self.assertEqual(events_of([], "insn"), [])

    def test_events_of_a_session(self):
        views = [(("begin", 0, 7, -1, -1, -1, ()), (0, 0, 0, 0), ()), (("tick", 0, 7, -1, -1, -1, ()), (0, 0, 0, 0), ())]
        self.assertEqual(events_of(views, "begin"), [("begin", 0, 7, -1, -1, -1, ())])


if __name__ == "__main__":
    unittest.main()
