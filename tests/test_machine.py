"""Points 3.1 to 3.7: the machine, picks and instructions."""

import unittest

from programs import events, memory, number, steps

from tapline.machine import Machine


class Beginning(unittest.TestCase):
    def test_the_state(self):
        programs = ((1, 2, 3), (), tuple(range(256)), (255,) * 255)
        machine = Machine(programs, (1, 20, 999))
        self.assertEqual(machine.state(), (
            tuple(memory(program) for program in programs),
            tuple((pid, 0, (0, 0, 0, 0), ("ready",)) for pid in range(4)),
            (0, 1, 2, 3), ((0, -1), (0, -1), (0, -1)), (0, ())))

    def test_one_of_each(self):
        self.assertEqual(Machine(((),), (5,)).state(),
                         (((0,) * 256,), ((0, 0, (0, 0, 0, 0), ("ready",)),), (0,), ((0, -1),), (0, ())))

    def test_kinds_of_values(self):
        machine = Machine(((10, 3), (10, 6), (10, 2)), (1, 2))
        steps(machine, 12)
        steps(machine, 3, 1, "timer")
        self.all_tuples(machine.state())
        for view in steps(machine, 5, 1):
            self.all_tuples(view)

    def all_tuples(self, value):
        if isinstance(value, tuple):
            for part in value:
                self.all_tuples(part)
        else:
            self.assertIn(type(value), (int, str))

    def test_arguments_and_answers_are_not_shared(self):
        program, rates = [10, 7, 1, 0, 9], [4]
        machine = Machine([program], rates)
        program[0] = 77
        rates[0] = 50
        views = machine.step((0, "step"))
        self.assertEqual(events(views), [("on", 0, 4, 0, 0, 0, ())])
        before = machine.state()
        views.clear()
        views.append("x")
        self.assertEqual(machine.state(), before)
        self.assertEqual(events(machine.step((0, "step")))[0], ("insn", 0, 8, 0, 0, 0, (10,)))
        self.assertEqual(views, ["x"])
        self.assertEqual(program, [77, 7, 1, 0, 9])

    def test_two_machines_share_nothing(self):
        programs = ((1, 0, 7),)
        one, other = Machine(programs, (1,)), Machine(programs, (1,))
        steps(one, 3)
        self.assertEqual(other.state(), Machine(programs, (1,)).state())


class Picks(unittest.TestCase):
    def test_time_grows_by_the_rate_at_each_pick_of_the_processor(self):
        machine = Machine(((),), (3, 10))
        for what in ("step", "timer", "device", "device", "step"):
            machine.step((1, what))
        machine.step((0, "device"))
        self.assertEqual(machine.state()[3], ((3, -1), (50, 0)))

    def test_a_step_of_a_free_processor(self):
        machine = Machine(((7, 0), (7, 0)), (3, 10))
        self.assertEqual(machine.step((1, "step")), [(("on", 1, 10, 0, 0, 0, ()), (0, 0, 0, 0), memory((7, 0)))])
        self.assertEqual(machine.state()[1:4], (((0, 0, (0, 0, 0, 0), ("running", 1)), (1, 0, (0, 0, 0, 0), ("ready",))),
                                                (1,), ((0, -1), (10, 0))))
        self.assertEqual(events(machine.step((0, "step"))), [("on", 0, 3, 1, 1, 0, ())])
        self.assertEqual(machine.state()[2:4], ((), ((3, 1), (10, 0))))

    def test_a_step_with_no_thread_to_run(self):
        machine = Machine(((),), (3, 10))
        machine.step((0, "step"))
        before = machine.state()
        self.assertEqual(machine.step((1, "step")), [])
        self.assertEqual(machine.state(), before[:3] + (((3, 0), (10, -1)),) + before[4:])

    def test_one_instruction_a_step(self):
        machine = Machine(((1, 0, 5, 1, 1, 6),), (2,))
        self.assertEqual(events(steps(machine, 3)), [
            ("on", 0, 2, 0, 0, 0, ()), ("insn", 0, 4, 0, 0, 0, (1,)), ("insn", 0, 6, 0, 0, 3, (1,))])

    def test_a_timer(self):
        machine = Machine(((1, 2, 9), ()), (2,))
        steps(machine, 2)
        self.assertEqual(machine.step((0, "timer")), [
            (("tick", 0, 6, -1, -1, -1, ()), (0, 0, 0, 0), ()),
            (("off", 0, 6, 0, 0, 3, (1,)), (0, 0, 9, 0), memory((1, 2, 9)))])
        self.assertEqual(machine.state()[1:4], (((0, 3, (0, 0, 9, 0), ("ready",)), (1, 0, (0, 0, 0, 0), ("ready",))),
                                                (1, 0), ((6, -1),)))

    def test_a_timer_of_a_free_processor(self):
        machine = Machine(((),), (2, 5))
        machine.step((0, "step"))
        self.assertEqual(machine.step((1, "timer")), [(("tick", 1, 5, -1, -1, -1, ()), (0, 0, 0, 0), ())])
        self.assertEqual(machine.state()[1][0], (0, 0, (0, 0, 0, 0), ("running", 0)))

    def test_a_thread_goes_on_where_it_was(self):
        machine = Machine(((1, 2, 9, 7, 3),), (2, 5))
        steps(machine, 3)
        machine.step((0, "timer"))
        self.assertEqual(machine.step((1, "step")), [(("on", 1, 5, 0, 0, 3, ()), (0, 0, 9, 0), memory((1, 2, 9, 7, 3)))])

    def test_a_device_without_requests(self):
        machine = Machine(((),), (2,))
        self.assertEqual(machine.step((0, "device")), [])
        self.assertEqual(machine.state()[4], (0, ()))


class Instructions(unittest.TestCase):
    def do(self, program, before=(0, 0, 0, 0), pc=0, data=()):
        """Does one instruction, which stands at pc, behind rows that set the registers; the views and the thread."""
        setting = ()
        # Numbers above 255 need a helper, which is set after them.
        rising = sorted(range(4), key=lambda r: before[r])
        for r in reversed(rising):
            setting += number(r, before[r], rising[0])
        start = 100
        whole = [0] * 256
        # The first row does nothing, and still does if it is the end of an instruction at 255 that begins with 4.
        whole[0:4] = [4, 0, 7, start]
        whole[start:start + len(setting) + 2] = list(setting) + [7, pc]
        for at, byte in data:
            whole[at] = byte
        for k, byte in enumerate(program):
            whole[(pc + k) % 256] = byte
        self.assertLess(start + len(setting) + 2, 250)
        machine = Machine((tuple(whole),), (1,))
        for _ in range(80):
            machine.step((0, "step"))
            thread = machine.state()[1][0]
            if thread[1] == pc and thread[2] == tuple(before) and machine.state()[3][0][0] > 2:
                break
        else:
            self.fail("not set")
        self.whole = tuple(whole)
        self.machine = machine
        return machine.step((0, "step")), machine.state()[1][0]

    def check(self, program, before, after, pc=0, behind=None, changed=(), data=()):
        with self.subTest(program=program, before=before, pc=pc):
            views, thread = self.do(program, before, pc, data)
            self.assertEqual([event[0] for event, _, _ in views], ["insn"])
            event, regs, cells = views[0]
            self.assertEqual(event[3:], (0, 0, pc, (program[0],)))
            self.assertEqual(regs, tuple(before))
            self.assertEqual(cells, self.whole)
            if behind is None:
                behind = (pc + len(program)) % 256
            self.assertEqual(thread, (0, behind, tuple(after), ("running", 0)))
            cells = list(cells)
            for at, byte in changed:
                cells[at] = byte
            self.assertEqual(self.machine.state()[0], (tuple(cells),))

    def test_constants(self):
        for r in range(4):
            for x in (r, r + 4, r + 252):
                after = [1, 2, 3, 4]
                after[r] = 255
                self.check((1, x, 255), (1, 2, 3, 4), after, 10)
        self.check((1, 2, 0), (1, 2, 300, 4), (1, 2, 0, 4), 10)

    def test_sums(self):
        self.check((2, 4 * 1 + 2), (1, 20, 300, 4), (1, 320, 300, 4), 10)
        self.check((2, 4 * 3 + 0), (1, 2, 3, 40), (1, 2, 3, 41), 10)
        self.check((2, 240 + 4 * 2 + 2), (1, 2, 3, 4), (1, 2, 6, 4), 10)
        self.check((2, 4 * 0 + 1), (65535, 1, 3, 4), (0, 1, 3, 4), 10)
        self.check((2, 4 * 0 + 1), (65534, 1, 3, 4), (65535, 1, 3, 4), 10)
        self.check((2, 0), (65535, 2, 3, 4), (65534, 2, 3, 4), 10)

    def test_differences(self):
        self.check((3, 4 * 2 + 1), (1, 20, 300, 4), (1, 20, 280, 4), 10)
        self.check((3, 4 * 0 + 1), (1, 2, 3, 4), (65535, 2, 3, 4), 10)
        self.check((3, 4 * 0 + 1), (2, 2, 3, 4), (0, 2, 3, 4), 10)
        self.check((3, 4 * 3 + 3), (1, 2, 3, 4), (1, 2, 3, 0), 10)
        self.check((3, 4 * 0 + 1), (0, 65535, 3, 4), (1, 65535, 3, 4), 10)

    def test_copies(self):
        self.check((4, 4 * 3 + 1), (1, 65535, 3, 4), (1, 65535, 3, 65535), 10)
        self.check((4, 192 + 4 * 0 + 3), (1, 2, 3, 4), (4, 2, 3, 4), 10)
        self.check((4, 4 * 2 + 2), (1, 2, 3, 4), (1, 2, 3, 4), 10)

    def test_loads(self):
        data = ((40, 77), (255, 78))
        self.check((5, 4 * 1 + 2), (1, 2, 40, 4), (1, 77, 40, 4), 10, data=data)
        self.check((5, 4 * 1 + 2), (1, 2, 255, 4), (1, 78, 255, 4), 10, data=data)
        self.check((5, 4 * 1 + 2), (1, 2, 256 + 40, 4), (1, 77, 296, 4), 10, data=data)
        self.check((5, 4 * 1 + 2), (1, 2, 65535, 4), (1, 78, 65535, 4), 10, data=data)
        self.check((5, 4 * 3 + 3), (1, 2, 3, 40), (1, 2, 3, 77), 10, data=data)
        self.check((5, 4 * 0 + 1), (1, 256, 3, 4), (4, 256, 3, 4), 10)

    def test_stores(self):
        self.check((6, 4 * 1 + 2), (1, 77, 40, 4), (1, 77, 40, 4), 10, changed=((40, 77),))
        self.check((6, 4 * 1 + 2), (1, 255, 255, 4), (1, 255, 255, 4), 10, changed=((255, 255),))
        self.check((6, 4 * 0 + 3), (300, 2, 3, 256 + 9), (300, 2, 3, 265), 10, changed=((9, 44),))
        self.check((6, 4 * 0 + 3), (256, 2, 3, 65535), (256, 2, 3, 65535), 10, changed=((255, 0),))
        self.check((6, 4 * 2 + 2), (1, 2, 50, 4), (1, 2, 50, 4), 10, changed=((50, 50),))

    def test_jumps(self):
        for x in (0, 5, 10, 255):
            self.check((7, x), (1, 2, 3, 4), (1, 2, 3, 4), 10, behind=x)

    def test_jumps_by_zero(self):
        for r in range(4):
            zero, other = [1, 2, 3, 4], [0, 0, 0, 0]
            zero[r], other[r] = 0, 256
            for x in (r, r + 252):
                self.check((8, x, 200), zero, zero, 10, behind=200)
                self.check((8, x, 200), other, other, 10, behind=13)
                self.check((9, x, 200), zero, zero, 10, behind=13)
                self.check((9, x, 200), other, other, 10, behind=200)

    def test_jumps_there_and_back(self):
        self.check((11, 200), (1, 2, 3, 4), (1, 2, 3, 12), 10, behind=200)
        self.check((12,), (1, 2, 3, 44), (1, 2, 3, 44), 10, behind=44)
        self.check((12,), (1, 2, 3, 256 * 9 + 7), (1, 2, 3, 256 * 9 + 7), 10, behind=7)
        self.check((12,), (0, 0, 0, 65535), (0, 0, 0, 65535), 10, behind=255)

    def test_over_the_end_of_the_memory(self):
        one = (1, 2, 3, 4)
        self.check((1, 4, 9), one, (9, 2, 3, 4), 255, behind=2)
        self.check((1, 0, 4), one, (4, 2, 3, 4), 254, behind=1)
        self.check((1, 0, 9), one, (9, 2, 3, 4), 253, behind=0)
        self.check((2, 4 * 0 + 1), one, (3, 2, 3, 4), 254, behind=0)
        self.check((4, 4 * 1 + 0), one, (1, 1, 3, 4), 255, behind=1)
        self.check((11, 4), one, (1, 2, 3, 1), 255, behind=4)
        self.check((11, 44), one, (1, 2, 3, 0), 254, behind=44)
        self.check((8, 4, 9), one, one, 255, behind=2)
        self.check((9, 4, 9), one, one, 255, behind=9)
        self.check((7, 4), one, one, 255, behind=4)
        self.check((12,), one, one, 255, behind=4)

    def test_the_end(self):
        for pc, behind in ((10, 11), (255, 0)):
            views, thread = self.do((0,), (1, 2, 3, 4), pc)
            self.assertEqual([event[0] for event, _, _ in views], ["insn", "end"])
            self.assertEqual([event[3:] for event, _, _ in views], [(0, 0, pc, (0,)), (0, 0, pc, (0,))])
            self.assertEqual([view[1:] for view in views], [((1, 2, 3, 4), self.whole)] * 2)
            self.assertEqual(thread, (0, behind, (1, 2, 3, 4), ("ended", 0)))
            self.assertEqual(self.machine.state()[3][0][1], -1)
            self.assertEqual(self.machine.state()[2], ())

    def test_faults(self):
        for o in list(range(13, 256, 11)) + [13, 14, 254, 255]:
            views, thread = self.do((o,), (1, 2, 3, 4), 10)
            self.assertEqual([event[0] for event, _, _ in views], ["insn", "fault", "end"])
            self.assertEqual([event[3:] for event, _, _ in views], [(0, 0, 10, (o,)), (0, 0, 10, (o,)), (0, 0, 10, (65535,))])
            self.assertEqual([view[1:] for view in views], [((1, 2, 3, 4), self.whole)] * 3)
            self.assertEqual(thread, (0, 10, (1, 2, 3, 4), ("ended", 65535)))
            self.assertEqual(self.machine.state()[3][0][1], -1)

    def test_all_events_of_a_step_have_its_time_and_processor(self):
        machine = Machine(((99,), (5, 0)), (7, 20))
        steps(machine, 1)
        self.assertEqual(events(steps(machine, 1)), [
            ("insn", 0, 14, 0, 0, 0, (99,)), ("fault", 0, 14, 0, 0, 0, (99,)), ("end", 0, 14, 0, 0, 0, (65535,))])
        steps(machine, 1, 1)
        self.assertEqual(events(steps(machine, 1, 1)), [("insn", 1, 40, 1, 1, 0, (5,))])


class ChangingCode(unittest.TestCase):
    def test_the_next_instruction_is_changed(self):
        # 77 is stored over the instruction behind the store.
        program = (1, 0, 77, 1, 1, 8, 6, 1, 0, 0)
        machine = Machine((program,), (1,))
        steps(machine, 4)
        changed = program[:8] + (77,) + program[9:]
        self.assertEqual(machine.state()[0], (memory(changed),))
        views = steps(machine, 1)
        self.assertEqual([event[0] for event, _, _ in views], ["insn", "fault", "end"])
        self.assertEqual(events(views)[0], ("insn", 0, 5, 0, 0, 8, (77,)))
        self.assertEqual(views[0][2], memory(changed))

    def test_an_operand_is_changed_in_a_loop(self):
        # Each time round, what is loaded into register 2 is one more.
        program = (1, 2, 5, 1, 0, 2, 1, 1, 1, 2, 9, 6, 8, 7, 0)
        machine = Machine((program,), (1,))
        seen = []
        for _ in range(1 + 6 * 5):
            machine.step((0, "step"))
            if machine.state()[1][0][1] == 3:
                seen.append(machine.state()[1][0][2][2])
        self.assertEqual(seen, [5, 6, 7, 8, 9])

    def test_an_instruction_that_changes_itself(self):
        # The store writes over its own first byte; it is done as it was read.
        program = (1, 0, 3, 6, 0, 0)
        machine = Machine((program,), (1,))
        steps(machine, 2)
        view = steps(machine, 1)[0]
        self.assertEqual(view, (("insn", 0, 3, 0, 0, 3, (6,)), (3, 0, 0, 0), memory(program)))
        self.assertEqual(machine.state()[0], (memory((1, 0, 3, 3, 0, 0)),))
        self.assertEqual(machine.state()[1][0][1], 5)

    def test_memories_of_processes_are_their_own(self):
        program = (1, 0, 77, 6, 0)
        machine = Machine((program, program), (1,))
        steps(machine, 3)
        self.assertEqual(machine.state()[0], (memory(program)[:77] + (77,) + memory(program)[78:], memory(program)))

    def test_threads_of_a_process_share_its_memory(self):
        # The new thread begins at 8 and stores 77 at 77, where the first one loads it.
        program = (1, 0, 8, 10, 5, 10, 1, 7, 1, 0, 77, 6, 0, 0)
        machine = Machine((program,), (1,))
        steps(machine, 10)
        self.assertEqual(machine.state()[0][0][77], 77)
        self.assertEqual(machine.state()[1][1][0], 0)


if __name__ == "__main__":
    unittest.main()
