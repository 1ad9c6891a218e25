"""Points 4.1 to 4.6: stops, and that the processes do not notice them."""

import random
import unittest

from model import drawn_run
from programs import events, memory, steps

from tapline.machine import Machine
from tapline.stops import StoppedMachine


def under(views, stops):
    """The views without those of instructions at whose place there was no stop."""
    return [view for view in views if view[0][0] != "insn" or (view[0][3], view[0][5]) in stops]


class Setting(unittest.TestCase):
    def test_none_at_the_beginning(self):
        machine = StoppedMachine(((1, 2, 3), (255,)), (1, 2))
        self.assertEqual(machine.stops(), [])
        self.assertEqual(machine.raw_memory(0), memory((1, 2, 3)))
        self.assertEqual(machine.raw_memory(1), memory((255,)))
        self.assertEqual(machine.state(), Machine(((1, 2, 3), (255,)), (1, 2)).state())

    def test_the_byte_is_written_and_kept(self):
        machine = StoppedMachine(((1, 2, 3), (4, 5)), (1,))
        self.assertIsNone(machine.set_stop(0, 1))
        self.assertEqual(machine.stops(), [(0, 1)])
        self.assertEqual(machine.raw_memory(0), memory((1, 255, 3)))
        self.assertEqual(machine.raw_memory(1), memory((4, 5)))
        self.assertEqual(machine.state()[0], (memory((1, 2, 3)), memory((4, 5))))
        self.assertIsNone(machine.clear_stop(0, 1))
        self.assertEqual(machine.stops(), [])
        self.assertEqual(machine.raw_memory(0), memory((1, 2, 3)))

    def test_setting_twice(self):
        machine = StoppedMachine(((1, 2, 3),), (1,))
        machine.set_stop(0, 1)
        machine.set_stop(0, 1)
        self.assertEqual(machine.stops(), [(0, 1)])
        self.assertEqual(machine.state()[0], (memory((1, 2, 3)),))
        machine.clear_stop(0, 1)
        self.assertEqual(machine.stops(), [])
        self.assertEqual(machine.raw_memory(0), memory((1, 2, 3)))

    def test_clearing_where_there_is_none(self):
        machine = StoppedMachine(((1, 255, 3),), (1,))
        machine.clear_stop(0, 1)
        self.assertEqual(machine.raw_memory(0), memory((1, 255, 3)))
        machine.set_stop(0, 2)
        machine.clear_stop(0, 2)
        machine.clear_stop(0, 2)
        self.assertEqual(machine.raw_memory(0), memory((1, 255, 3)))
        self.assertEqual(machine.stops(), [])

    def test_all_stops_ascending(self):
        machine = StoppedMachine(((1,), (2,), (3,)), (1,))
        for pid, at in ((2, 0), (0, 255), (1, 9), (0, 0), (1, 10), (0, 100), (1, 2)):
            machine.set_stop(pid, at)
        self.assertEqual(machine.stops(), [(0, 0), (0, 100), (0, 255), (1, 2), (1, 9), (1, 10), (2, 0)])
        machine.stops().clear()
        self.assertEqual(len(machine.stops()), 7)
        self.assertEqual(machine.raw_memory(2), (255,) + (0,) * 255)
        self.assertEqual(machine.raw_memory(0), (255,) + (0,) * 99 + (255,) + (0,) * 154 + (255,))

    def test_everywhere(self):
        machine = StoppedMachine((tuple(range(256)),), (1,))
        for at in range(256):
            machine.set_stop(0, at)
        self.assertEqual(machine.raw_memory(0), (255,) * 256)
        self.assertEqual(machine.state()[0], (tuple(range(256)),))
        self.assertEqual(machine.stops(), [(0, at) for at in range(256)])

    def test_no_address(self):
        machine = StoppedMachine(((1, 2, 3), (4,)), (1,))
        places = ((0, 256), (0, -1), (2, 0), (-1, 0), (4, 4), (1, 1000), (-2, 0), (0, -256))
        for pid, at in places:
            self.assertIsNone(machine.set_stop(pid, at))
        self.assertEqual(machine.stops(), [])
        self.assertEqual(machine.raw_memory(0), memory((1, 2, 3)))
        self.assertEqual(machine.raw_memory(1), memory((4,)))
        for pid, at in ((0, 0), (0, 255), (1, 0), (1, 255)):
            machine.set_stop(pid, at)
        for pid, at in places:
            self.assertIsNone(machine.clear_stop(pid, at))
        self.assertEqual(machine.stops(), [(0, 0), (0, 255), (1, 0), (1, 255)])


class Running(unittest.TestCase):
    def both(self, program, stops, many):
        """Runs a program with and without stops; the views of both."""
        self.plain, self.stopped = Machine((program,), (1,)), StoppedMachine((program,), (1,))
        for at in stops:
            self.stopped.set_stop(0, at)
        plain, stopped = [], []
        for _ in range(many):
            plain.append(self.plain.step((0, "step")))
            stopped.append(self.stopped.step((0, "step")))
            self.assertEqual(self.stopped.state(), self.plain.state())
        for one, other in zip(plain, stopped):
            self.assertEqual(other, under(one, [(0, at) for at in stops]))
        return sum(stopped, [])

    def test_the_first_byte(self):
        views = self.both((1, 0, 5, 1, 1, 6, 7, 0), (3,), 8)
        self.assertEqual(events(views), [("on", 0, 1, 0, 0, 0, ()), ("insn", 0, 3, 0, 0, 3, (1,)), ("insn", 0, 6, 0, 0, 3, (1,))])
        self.assertEqual(views[1][1:], ((5, 0, 0, 0), memory((1, 0, 5, 1, 1, 6, 7, 0))))

    def test_in_the_middle_of_an_instruction(self):
        for stops in ((1,), (2,), (1, 2), (7,)):
            views = self.both((1, 0, 5, 1, 1, 6, 7, 0), stops, 8)
            self.assertEqual([event[0] for event in events(views)], ["on"])

    def test_the_whole_instruction(self):
        views = self.both((1, 0, 5, 1, 1, 6, 7, 0), (0, 1, 2), 8)
        self.assertEqual([event[5] for event in events(views)[1:]], [0, 0, 0])

    def test_over_the_end_of_the_memory(self):
        program = [4, 0, 7, 255] + [0] * 251 + [1]
        views = self.both(tuple(program), (255, 0, 1), 6)
        self.assertEqual([event[5] for event in events(views) if event[0] == "insn"], [0, 255, 255])

    def test_each_instruction_under_stops(self):
        program = (1, 0, 60, 1, 1, 3, 2, 1, 3, 1, 4, 8, 5, 12, 6, 9, 11, 25, 8, 3, 0, 9, 0, 0, 0, 10, 7, 8, 2, 32, 0, 0, 12, 0)
        for stops in (range(0, 256), range(0, 256, 2), range(1, 256, 2), range(0, 40, 3)):
            self.both(program, tuple(stops), 30)

    def test_a_byte_that_is_loaded(self):
        program = (1, 1, 50, 5, 1, 0) + (0,) * 44 + (77,)
        self.both(program, (50,), 3)
        self.assertEqual(self.stopped.state()[1][0][2], (77, 50, 0, 0))
        self.assertEqual(self.stopped.raw_memory(0)[50], 255)

    def test_a_byte_that_is_stored_to(self):
        program = (1, 1, 50, 1, 0, 78, 6, 1, 5, 9, 0) + (0,) * 39 + (77,)
        self.both(program, (50,), 5)
        self.assertEqual(self.stopped.raw_memory(0)[50], 255)
        self.assertEqual(self.stopped.state()[0][0][50], 78)
        self.assertEqual(self.stopped.state()[1][0][2], (78, 50, 78, 0))
        self.assertEqual(self.stopped.stops(), [(0, 50)])
        self.stopped.clear_stop(0, 50)
        self.assertEqual(self.stopped.raw_memory(0)[50], 78)
        self.assertEqual(self.stopped.state(), self.plain.state())

    def test_an_instruction_that_is_stored_under_its_stop(self):
        # The store writes 0 over the row behind it, which has a stop.
        program = (1, 1, 8, 1, 2, 0, 6, 9, 77)
        views = self.both(program, (8,), 5)
        self.assertEqual(events(views), [("on", 0, 1, 0, 0, 0, ()), ("insn", 0, 5, 0, 0, 8, (0,)), ("end", 0, 5, 0, 0, 8, (0,))])

    def test_a_byte_255_of_the_process(self):
        seen = events(self.both((255,), (), 2))
        self.assertEqual([event[0] for event in seen], ["on", "fault", "end"])
        seen = events(self.both((255,), (0,), 2))
        self.assertEqual([event[0] for event in seen], ["on", "insn", "fault", "end"])
        self.assertEqual(seen[1], ("insn", 0, 2, 0, 0, 0, (255,)))
        self.assertEqual(self.stopped.raw_memory(0)[0], 255)
        self.stopped.clear_stop(0, 0)
        self.assertEqual(self.stopped.raw_memory(0)[0], 255)

    def test_a_255_that_the_process_stores_itself(self):
        # 255 is stored over the row behind the store; there it is a fault.
        program = (1, 1, 8, 1, 2, 255, 6, 9, 0)
        for stops in ((), (8,), (5,), (5, 8)):
            seen = events(self.both(program, stops, 5))
            self.assertEqual([event[0] for event in seen if event[0] != "insn"], ["on", "fault", "end"])
            self.stopped.clear_stop(0, 8)
            self.assertEqual(self.stopped.state()[0][0][8], 255)

    def test_stops_of_another_process(self):
        machine = StoppedMachine(((7, 0), (7, 0)), (1,))
        machine.set_stop(1, 0)
        self.assertEqual([event[0] for event in events(steps(machine, 3))], ["on"])
        machine.step((0, "timer"))
        self.assertEqual([event[0] for event in events(steps(machine, 3))], ["on", "insn", "insn"])

    def test_threads_of_one_process(self):
        machine = StoppedMachine(((10, 5, 7, 2),), (1, 1))
        machine.set_stop(0, 2)
        steps(machine, 2)
        steps(machine, 2, 1)
        self.assertEqual([event[4:] for event in events(steps(machine, 2))], [(0, 2, (7,))] * 2)

    def test_set_and_cleared_between_picks(self):
        machine, plain = StoppedMachine(((2, 5, 7, 0),), (1,)), Machine(((2, 5, 7, 0),), (1,))
        seen = []
        for k in range(30):
            if k in (5, 12):
                machine.set_stop(0, 2)
            if k in (9, 20):
                machine.clear_stop(0, 2)
            plain.step((0, "step"))
            seen += [(event[5], event[2]) for event in events(machine.step((0, "step"))) if event[0] == "insn"]
            self.assertEqual(machine.state(), plain.state())
        self.assertEqual(seen, [(2, 7), (2, 9), (2, 13), (2, 15), (2, 17), (2, 19)])

    def test_answers_are_not_shared(self):
        machine = StoppedMachine(((7, 0),), (1,))
        machine.set_stop(0, 0)
        views = steps(machine, 1)
        one = machine.step((0, "step"))
        one.append("x")
        self.assertEqual(len(machine.step((0, "step"))), 1)
        self.assertEqual(len(views), 1)


class Compared(unittest.TestCase):
    """Behind each pick of long drawn runs: a machine without stops that did the same picks."""

    def test_stops_at_random(self):
        found = 0
        for seed in range(60):
            programs, rates, picks = drawn_run(seed)
            chance = random.Random(seed)
            plain, stopped = Machine(programs, rates), StoppedMachine(programs, rates)
            stops = set()
            with self.subTest(seed=seed):
                for pick in picks:
                    for _ in range(chance.choice((0, 0, 1, 3, 40))):
                        place = (chance.randrange(len(programs)), chance.choice((chance.randrange(256), chance.randrange(40))))
                        if chance.random() < 0.6:
                            stopped.set_stop(*place)
                            stops.add(place)
                        else:
                            stopped.clear_stop(*place)
                            stops.discard(place)
                    self.assertEqual(stopped.stops(), sorted(stops))
                    views = stopped.step(pick)
                    self.assertEqual(views, under(plain.step(pick), stops))
                    self.same(plain, stopped, stops)
                    found += len([view for view in views if view[0][0] == "insn"])
        self.assertGreater(found, 1000)

    def same(self, plain, stopped, stops):
        state = plain.state()
        self.assertEqual(stopped.state(), state)
        for pid, cells in enumerate(state[0]):
            raw = tuple(255 if (pid, at) in stops else byte for at, byte in enumerate(cells))
            self.assertEqual(stopped.raw_memory(pid), raw)

    def test_stops_everywhere_and_nowhere(self):
        for seed in range(30):
            programs, rates, picks = drawn_run(seed)
            plain, full, empty = Machine(programs, rates), StoppedMachine(programs, rates), StoppedMachine(programs, rates)
            for pid in range(len(programs)):
                for at in range(256):
                    full.set_stop(pid, at)
            for pick in picks:
                views = plain.step(pick)
                self.assertEqual(full.step(pick), views)
                self.assertEqual(empty.step(pick), under(views, ()))
                self.assertEqual(full.state(), plain.state())
                self.assertEqual(empty.state(), plain.state())
            for pid in range(len(programs)):
                for at in range(256):
                    full.clear_stop(pid, at)
                self.assertEqual(full.raw_memory(pid), plain.state()[0][pid])


if __name__ == "__main__":
    unittest.main()
