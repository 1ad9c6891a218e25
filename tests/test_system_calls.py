"""Points 3.8 to 3.12: system calls, how they return, and what the views of their events hold."""

import unittest

from programs import events, memory, number, steps, until

from tapline.machine import Machine


class Calls(unittest.TestCase):
    def machine(self, *programs, rates=(1,)):
        self.programs = programs
        self.made = Machine(programs, rates)
        return self.made

    def call(self, program, cpu=0, made=None):
        """Runs a program up to its first system call; the events of that step and their views."""
        machine = made or self.machine(program)
        views = until(machine, "entry", cpu)
        return events(views), views

    def thread(self, tid=0):
        return self.made.state()[1][tid]

    def short(self, seen):
        return [(event[0],) + event[4:] for event in seen]


class Each(Calls):
    def test_an_end(self):
        seen, views = self.call(number(0, 3000, 1) + number(1, 9, 2) + (10, 0))
        at = 27
        self.assertEqual(self.short(seen), [("insn", 0, at, (10,)), ("entry", 0, at, (0, 3000, 9)), ("end", 0, at, (3000,))])
        self.assertEqual(self.thread(), (0, at + 2, (3000, 9, 0, 0), ("ended", 3000)))
        self.assertEqual([view[1:] for view in views], [((3000, 9, 0, 0), memory(self.programs[0]))] * 3)
        self.assertEqual(self.made.state()[2:4], ((), ((seen[0][2], -1),)))

    def test_giving_way(self):
        machine = self.machine((1, 0, 7, 1, 1, 8, 10, 1), ())
        seen, views = self.call((), made=machine)
        self.assertEqual(self.short(seen), [("insn", 0, 6, (10,)), ("entry", 0, 6, (1, 7, 8)), ("return", 0, 6, (1, 0)),
                                            ("off", 0, 8, (2,))])
        self.assertEqual([view[1] for view in views], [(7, 8, 0, 0)] * 2 + [(0, 8, 0, 0)] * 2)
        self.assertEqual(self.thread(), (0, 8, (0, 8, 0, 0), ("ready",)))
        self.assertEqual(machine.state()[2:4], ((1, 0), ((4, -1),)))

    def test_sleeping(self):
        machine = self.machine((1, 0, 7, 10, 2), rates=(3,))
        seen, views = self.call((), made=machine)
        self.assertEqual(seen, [("insn", 0, 9, 0, 0, 3, (10,)), ("entry", 0, 9, 0, 0, 3, (2, 7, 0)),
                                ("off", 0, 9, 0, 0, 5, (3,))])
        self.assertEqual([view[1] for view in views], [(7, 0, 0, 0)] * 3)
        self.assertEqual(self.thread(), (0, 5, (7, 0, 0, 0), ("sleeping", 0, 16)))
        self.assertEqual(machine.state()[2:4], ((), ((9, -1),)))

    def test_asking(self):
        for call in (3, 4):
            machine = self.machine((1, 0, 7, 10, call), (1, 0, 9, 10, 7 - call))
            seen, views = self.call((), made=machine)
            self.assertEqual(self.short(seen), [("insn", 0, 3, (10,)), ("entry", 0, 3, (call, 7, 0)), ("off", 0, 5, (4,))])
            self.assertEqual([view[1] for view in views], [(7, 0, 0, 0)] * 3)
            self.assertEqual(self.thread(), (0, 5, (7, 0, 0, 0), ("asking",)))
            self.assertEqual(machine.state()[2:], ((1,), ((3, -1),), (0, ((0, call, 7),))))
            self.call((), made=machine)
            self.assertEqual(machine.state()[4], (0, ((0, call, 7), (1, 7 - call, 9))))

    def test_a_new_thread(self):
        machine = self.machine((1, 0, 7, 1, 1, 8, 10, 5), ())
        seen, views = self.call((), made=machine)
        self.assertEqual(self.short(seen), [("insn", 0, 6, (10,)), ("entry", 0, 6, (5, 7, 8)), ("return", 0, 6, (5, 2))])
        self.assertEqual([view[1] for view in views], [(7, 8, 0, 0)] * 2 + [(2, 8, 0, 0)])
        self.assertEqual(machine.state()[1:4], (((0, 8, (2, 8, 0, 0), ("running", 0)), (1, 0, (0, 0, 0, 0), ("ready",)),
                                                 (0, 7, (8, 0, 0, 0), ("ready",))), (1, 2), ((4, 0),)))

    def test_the_pc_of_a_new_thread_counts_modulo_256(self):
        self.call(number(0, 65535, 1) + (10, 5))
        self.assertEqual(self.thread(1)[:3], (0, 255, (255, 0, 0, 0)))
        self.call(number(0, 256, 1) + (10, 5))
        self.assertEqual(self.thread(1)[:3], (0, 0, (0, 0, 0, 0)))

    def test_the_ninth_thread(self):
        # Every thread begins at 0 and makes another one.
        machine = self.machine((1, 0, 0, 10, 5, 7, 0), (), ())
        results = []
        for _ in range(6):
            seen = events(until(machine, "return"))
            results.append(seen[-1][6])
        self.assertEqual(results, [(5, 3), (5, 4), (5, 5), (5, 6), (5, 7), (5, 65535)])
        state = machine.state()
        self.assertEqual(len(state[1]), 8)
        self.assertEqual(state[1][0], (0, 5, (65535, 0, 0, 0), ("running", 0)))
        self.assertEqual(state[2], (1, 2, 3, 4, 5, 6, 7))

    def test_threads_that_have_ended_are_counted(self):
        # The new thread ends at once; a thread is made after it has ended.
        machine = self.machine((1, 0, 14, 10, 5, 10, 1, 7, 0, 0, 0, 0, 0, 0, 0))
        results = []
        while len(results) < 9:
            results += [event[6][1] for event in events(steps(machine, 1)) if event[0] == "return" and event[6][0] == 5]
        self.assertEqual(results, [1, 2, 3, 4, 5, 6, 7, 65535, 65535])
        self.assertEqual([thread[3] for thread in machine.state()[1][1:]], [("ended", 0)] * 7)

    def test_other_calls(self):
        for call in (7, 8, 10, 128, 255):
            seen, views = self.call((1, 0, 7, 10, call))
            self.assertEqual(self.short(seen), [("insn", 0, 3, (10,)), ("entry", 0, 3, (call, 7, 0)),
                                                ("return", 0, 3, (call, 65535))])
            self.assertEqual([view[1] for view in views], [(7, 0, 0, 0)] * 2 + [(65535, 0, 0, 0)])
            self.assertEqual(self.thread(), (0, 5, (65535, 0, 0, 0), ("running", 0)))

    def test_over_the_end_of_the_memory(self):
        program = (4, 0, 7, 255) + (0,) * 251 + (10,)
        seen, _ = self.call(program)
        self.assertEqual(self.short(seen), [("insn", 0, 255, (10,)), ("entry", 0, 255, (4, 0, 0)), ("off", 0, 1, (4,))])
        self.assertEqual(self.thread()[1], 1)


class Waiting(Calls):
    def test_for_no_thread(self):
        for wanted in (0, 2, 3, 8, 300, 65535):
            machine = self.machine(number(0, wanted, 1) + (10, 6), ())
            seen, views = self.call((), made=machine)
            self.assertEqual([event[0] for event in seen], ["insn", "entry", "return"])
            self.assertEqual(seen[2][6], (6, 65535))
            self.assertEqual(views[2][1][0], 65535)
            self.assertEqual(self.thread()[3], ("running", 0))

    def test_for_one_that_has_ended(self):
        machine = self.machine((1, 0, 1, 10, 1, 1, 0, 1, 10, 6), number(0, 3000, 1) + (10, 0))
        until(machine, "end")
        machine.step((0, "step"))
        machine.step((0, "step"))
        seen, views = self.call((), made=machine)
        self.assertEqual(self.short(seen), [("insn", 0, 8, (10,)), ("entry", 0, 8, (6, 1, 0)), ("return", 0, 8, (6, 3000))])
        self.assertEqual(views[2][1], (3000, 0, 0, 0))
        self.assertEqual(self.thread(), (0, 10, (3000, 0, 0, 0), ("running", 0)))

    def test_for_one_that_goes_on(self):
        machine = self.machine((1, 0, 1, 10, 6), (1, 0, 44, 10, 0))
        seen, views = self.call((), made=machine)
        self.assertEqual(self.short(seen), [("insn", 0, 3, (10,)), ("entry", 0, 3, (6, 1, 0)), ("off", 0, 5, (5,))])
        self.assertEqual(views[2][1], (1, 0, 0, 0))
        self.assertEqual(self.thread(), (0, 5, (1, 0, 0, 0), ("waiting", 1)))
        self.assertEqual(machine.state()[2:4], ((1,), ((3, -1),)))
        views = until(machine, "end")
        self.assertEqual(events(views), [("insn", 0, 6, 1, 1, 3, (10,)), ("entry", 0, 6, 1, 1, 3, (0, 44, 0)),
                                         ("end", 0, 6, 1, 1, 3, (44,)), ("return", 0, 6, 0, 0, 3, (6, 44))])
        self.assertEqual(views[3][1:], ((44, 0, 0, 0), memory((1, 0, 1, 10, 6))))
        self.assertEqual(machine.state()[1:4], (((0, 5, (44, 0, 0, 0), ("ready",)), (1, 5, (44, 0, 0, 0), ("ended", 44))),
                                                (0,), ((6, -1),)))

    def test_several_for_one(self):
        # Threads 1, 2 and 3 wait for 0 in the order 3, 1, 2; their calls return in the order of their numbers.
        wait = (1, 0, 0, 10, 6)
        machine = self.machine((10, 1, 10, 1, 10, 1, 10, 1, 77), wait, (10, 1) + wait, wait, rates=(1, 1))
        for tid in (0, 1, 2):
            machine.step((0, "step"))
            machine.step((0, "timer"))
        self.assertEqual(machine.state()[2], (3, 0, 1, 2))
        until(machine, "off")
        while not all(thread[3] == ("waiting", 0) for thread in machine.state()[1][1:]):
            machine.step((0, "step"))
        views = until(machine, "end")
        self.assertEqual([event[0] for event in events(views)], ["insn", "fault", "end", "return", "return", "return"])
        self.assertEqual(self.short(events(views)[3:]), [("return", 1, 3, (6, 65535)), ("return", 2, 5, (6, 65535)),
                                                        ("return", 3, 3, (6, 65535))])
        self.assertEqual([view[1][0] for view in views[3:]], [65535] * 3)
        self.assertEqual(machine.state()[2], (1, 2, 3))

    def test_only_those_that_wait_for_it(self):
        machine = self.machine((1, 0, 2, 10, 6), (1, 0, 3, 10, 6), (0,), (7, 0), rates=(1, 1))
        seen = events(until(machine, "end"))
        self.assertEqual([(event[0], event[4]) for event in seen], [("insn", 2), ("end", 2), ("return", 0)])
        self.assertEqual(self.thread(1)[3], ("waiting", 3))

    def test_two_for_each_other(self):
        machine = self.machine((1, 0, 1, 10, 6), (1, 0, 0, 10, 6))
        steps(machine, 20)
        self.assertEqual([thread[3] for thread in machine.state()[1]], [("waiting", 1), ("waiting", 0)])


class Device(Calls):
    def test_setting_and_asking(self):
        machine = self.machine(number(0, 3000, 1) + (10, 3), (1, 1, 5, 10, 4), rates=(1, 10))
        until(machine, "off")
        until(machine, "off")
        self.assertEqual(machine.state()[4], (0, ((0, 3, 3000), (1, 4, 0))))
        time = machine.state()[3][1][0]
        views = machine.step((1, "device"))
        whole = memory(self.programs[0])
        self.assertEqual(views, [(("done", 1, time + 10, 0, 0, 24, (3,)), (3000, 184, 0, 0), whole),
                                 (("return", 1, time + 10, 0, 0, 24, (3, 0)), (0, 184, 0, 0), whole)])
        self.assertEqual(machine.state()[4], (3000, ((1, 4, 0),)))
        self.assertEqual(machine.state()[2], (0,))
        views = machine.step((1, "device"))
        whole = memory(self.programs[1])
        self.assertEqual(views, [(("done", 1, time + 20, 1, 1, 3, (4,)), (0, 5, 0, 0), whole),
                                 (("return", 1, time + 20, 1, 1, 3, (4, 3000)), (3000, 5, 0, 0), whole)])
        self.assertEqual(machine.state()[2:], ((0, 1), machine.state()[3], (3000, ())))
        self.assertEqual(self.thread(1)[3], ("ready",))
        self.assertEqual(machine.step((1, "device")), [])

    def test_the_value_stays(self):
        machine = self.machine((1, 0, 7, 10, 3, 10, 4, 10, 4, 1, 0, 9, 10, 3, 10, 4))
        results = []
        for _ in range(5):
            until(machine, "off")
            results.append(events(machine.step((0, "device")))[1][6])
        self.assertEqual(results, [(3, 0), (4, 7), (4, 7), (3, 0), (4, 9)])


class Sleeping(Calls):
    def test_until_the_time_and_not_before(self):
        for pause, rate, times in ((7, 3, 3), (6, 3, 2), (5, 3, 2), (0, 3, 1), (1, 1, 1), (2, 1, 2), (300, 100, 3)):
            machine = self.machine(number(0, pause, 1) + (10, 2), rates=(rate, 1))
            until(machine, "off")
            time = machine.state()[3][0][0]
            for k in range(times - 1):
                self.assertEqual(machine.step((0, "device")), [])
            at = len(self.programs[0]) - 2
            woken = machine.step((0, "device"))
            self.assertEqual(events(woken), [("return", 0, time + rate * times, 0, 0, at, (2, 0))])
            self.assertEqual(woken[0][1][0], 0)
            self.assertEqual(self.thread()[3], ("ready",))
            self.assertEqual(machine.state()[2], (0,))

    def test_only_picks_of_its_processor_wake_it(self):
        machine = self.machine((1, 0, 2, 10, 2), rates=(1, 999))
        until(machine, "off")
        self.assertEqual(steps(machine, 5, 1), [])
        machine.step((0, "device"))
        self.assertEqual(events(machine.step((0, "device"))), [("return", 0, 5, 0, 0, 3, (2, 0))])

    def test_each_pick_wakes_before_it_does_more(self):
        for what, behind in (("step", ["on"]), ("timer", ["tick"]), ("device", [])):
            machine = self.machine((10, 2))
            until(machine, "off")
            views = machine.step((0, what))
            self.assertEqual([event[0] for event in events(views)], ["return"] + behind)
            self.assertEqual(events(views)[0], ("return", 0, 3, 0, 0, 0, (2, 0)))

    def test_a_timer_puts_the_running_one_behind_those_that_wake(self):
        machine = self.machine((10, 2), (7, 0))
        until(machine, "off")
        machine.step((1 - 1, "step"))
        self.assertEqual(machine.state()[2:4], ((0,), ((3, 1),)))
        self.assertEqual([event[0] for event in events(machine.step((0, "timer")))], ["tick", "off"])
        self.assertEqual(machine.state()[2], (0, 1))

    def two_sleepers(self, pause):
        """Thread 1 sleeps first, until 14; thread 0 sleeps from 8 on."""
        machine = self.machine((10, 1, 1, 0, pause, 10, 2), (1, 0, 9, 10, 2))
        steps(machine, 8)
        self.assertEqual([self.thread(0)[3], self.thread(1)[3]], [("sleeping", 0, 8 + pause), ("sleeping", 0, 14)])
        return machine

    def test_ties_in_the_order_of_the_numbers(self):
        machine = self.two_sleepers(6)
        self.assertEqual(steps(machine, 5), [])
        views = machine.step((0, "step"))
        self.assertEqual(self.short(events(views)), [("return", 0, 5, (2, 0)), ("return", 1, 3, (2, 0)), ("on", 0, 7, ())])
        self.assertEqual(machine.state()[2], (1,))

    def test_each_at_its_own_time(self):
        for pause, row in ((5, (0, 1)), (7, (1, 0))):
            machine = self.two_sleepers(pause)
            seen = [(event[2], event[4]) for event in events(steps(machine, 7, 0, "device"))]
            self.assertEqual(seen, sorted([(8 + pause, 0), (14, 1)]))
            self.assertEqual(machine.state()[2], row)

    def test_a_time_that_no_pick_meets(self):
        machine = self.machine((1, 0, 200, 10, 2), rates=(300,))
        steps(machine, 3)
        self.assertEqual(self.thread()[3], ("sleeping", 0, 1100))
        seen = events(machine.step((0, "step")))
        self.assertEqual([event[:5] for event in seen], [("return", 0, 1200, 0, 0), ("on", 0, 1200, 0, 0)])


class Members(Calls):
    """Each kind of event with each of its members, and the views."""

    def test_of_a_second_process_on_a_second_processor(self):
        # Thread 1 waits for the device, is woken, and faults; thread 0 has nothing to do with it.
        program = (7, 2, 1, 2, 200, 10, 4, 11, 9, 10, 77, 13)
        machine = Machine(((0,), program), (1, 10))
        whole, twos = memory(program), (0, 0, 200, 0)
        machine.step((0, "step"))
        seen = machine.step((1, "step"))
        self.assertEqual(seen, [(("on", 1, 10, 1, 1, 0, ()), (0, 0, 0, 0), whole)])
        seen = machine.step((1, "step"))
        self.assertEqual(seen, [(("insn", 1, 20, 1, 1, 0, (7,)), (0, 0, 0, 0), whole)])
        seen = machine.step((1, "step"))
        self.assertEqual(seen, [(("insn", 1, 30, 1, 1, 2, (1,)), (0, 0, 0, 0), whole)])
        seen = machine.step((1, "step"))
        self.assertEqual(seen, [(("insn", 1, 40, 1, 1, 5, (10,)), twos, whole),
                                (("entry", 1, 40, 1, 1, 5, (4, 0, 0)), twos, whole),
                                (("off", 1, 40, 1, 1, 7, (4,)), twos, whole)])
        seen = machine.step((0, "device"))
        self.assertEqual(seen, [(("done", 0, 2, 1, 1, 5, (4,)), twos, whole),
                                (("return", 0, 2, 1, 1, 5, (4, 0)), twos, whole)])
        seen = machine.step((1, "step"))
        self.assertEqual(seen, [(("on", 1, 50, 1, 1, 7, ()), twos, whole)])
        seen = machine.step((1, "timer"))
        self.assertEqual(seen, [(("tick", 1, 60, -1, -1, -1, ()), (0, 0, 0, 0), ()),
                                (("off", 1, 60, 1, 1, 7, (1,)), twos, whole)])
        machine.step((1, "step"))
        machine.step((1, "step"))
        seen = machine.step((1, "step"))
        linked = (0, 0, 200, 9)
        self.assertEqual(seen, [(("insn", 1, 90, 1, 1, 9, (10,)), linked, whole),
                                (("entry", 1, 90, 1, 1, 9, (77, 0, 0)), linked, whole),
                                (("return", 1, 90, 1, 1, 9, (77, 65535)), (65535, 0, 200, 9), whole)])
        seen = machine.step((1, "step"))
        last = (65535, 0, 200, 9)
        self.assertEqual(seen, [(("insn", 1, 100, 1, 1, 11, (13,)), last, whole),
                                (("fault", 1, 100, 1, 1, 11, (13,)), last, whole),
                                (("end", 1, 100, 1, 1, 11, (65535,)), last, whole)])
        self.assertEqual(machine.state()[1], ((0, 0, (0, 0, 0, 0), ("running", 0)), (1, 11, last, ("ended", 65535))))

    def test_the_memory_of_a_view_is_that_of_its_moment(self):
        program = (1, 0, 77, 1, 1, 40, 6, 1, 10, 7)
        machine = Machine((program,), (1,))
        views = steps(machine, 5)
        self.assertEqual([view[0][0] for view in views], ["on", "insn", "insn", "insn", "insn", "entry", "return"])
        before, after = memory(program), memory(program)[:40] + (77,) + memory(program)[41:]
        self.assertEqual([view[2] for view in views], [before] * 4 + [after] * 3)

    def test_the_registers_of_a_view_stay_as_they_were(self):
        machine = Machine(((1, 0, 77, 1, 0, 78),), (1,))
        views = steps(machine, 3)
        self.assertEqual([view[1][0] for view in views], [0, 0, 77])
        steps(machine, 3)
        self.assertEqual([view[1][0] for view in views], [0, 0, 77])


if __name__ == "__main__":
    unittest.main()
