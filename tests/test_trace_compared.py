"""Points 9.8 and 0.3: tracing changes nothing, and tells what the log of the machine without tracing tells."""

import random
import unittest

from drawn_scripts import drawn_script, of_session
from model import drawn_run
from sessions import Recorder, drawn_sizes, session_script

from tapline.aggregates import kept, merge
from tapline.machine import Machine
from tapline.run import codes_of
from tapline.trace import Tracer


class Followed:
    """A run with tracing beside one without; of each session what it has to be compared with."""

    def __init__(self, test, seed):
        self.test = test
        self.chance = random.Random(seed)
        self.programs, self.rates, self.picks = drawn_run(seed, 120)
        self.tracer, self.machine = Tracer(self.programs, self.rates), Machine(self.programs, self.rates)
        # For each session: script, sizes, views of the log while it is in, readings, and whether it is in.
        self.sessions = []

    def time(self):
        return self.machine.state()[3][0][0]

    def put_in(self):
        seed = self.chance.randrange(10 ** 6)
        script = session_script(seed) if self.chance.random() < 0.7 else drawn_script(seed, depth=2)
        sizes = drawn_sizes(seed if self.chance.random() < 0.6 else seed % 4, len(self.rates))
        number = self.tracer.put_in(script, sizes, codes_of(script) if self.chance.random() < 0.7 else None)
        self.test.assertEqual(number, len(self.sessions))
        self.sessions.append({"script": script, "sizes": sizes, "views": [of_session("begin", self.time())], "read": [], "in": True})

    def take_out(self):
        number = self.chance.randrange(-1, len(self.sessions) + 1)
        if 0 <= number < len(self.sessions) and self.sessions[number]["in"]:
            self.sessions[number]["views"].append(of_session("close", self.time()))
            self.sessions[number]["in"] = False
        self.tracer.take_out(number)

    def read(self):
        if self.sessions:
            number, cpu = self.chance.randrange(len(self.sessions)), self.chance.randrange(len(self.rates))
            one = self.sessions[number]
            one["read"].append((len(one["views"]), cpu, self.tracer.session(number).read(cpu)))

    def run(self):
        for pick in self.picks:
            what = self.chance.random()
            if what < 0.04 or not self.sessions and what < 0.3:
                self.put_in()
            elif what < 0.07:
                self.take_out()
            elif what < 0.12:
                self.read()
            self.step(pick)

    def step(self, pick):
        views, told = self.machine.step(pick), self.tracer.step(pick)
        stops = self.stops()
        self.test.assertEqual(self.tracer.machine.stops(), sorted(stops))
        self.test.assertEqual(told, tuple(view for view in views if view[0][0] != "insn" or (view[0][3], view[0][5]) in stops))
        self.test.assertEqual(self.tracer.machine.state(), self.machine.state())
        for one in self.sessions:
            if one["in"]:
                one["views"] += views
        self.test.assertEqual([self.tracer.is_in(n) for n in range(len(self.sessions))], [one["in"] for one in self.sessions])

    def stops(self):
        patterns = [pattern for one in self.sessions if one["in"] for clause in one["script"][4] for pattern in clause[0]]
        return {(pid, at) for kind, n, a in patterns if kind == "insn" for pid in range(len(self.programs)) for at in range(256)
                if n in (None, pid) and a in (None, at)}

    def compare(self, number):
        """What a session did is the meaning of its script on the log, with what was lost; the number of its deeds."""
        one, session = self.sessions[number], self.tracer.session(number)
        recorder = Recorder(one["script"], one["sizes"], session.lost_tries(), session.empty_calls())
        done = 0
        for many, cpu, items in one["read"] + [(len(one["views"]), cpu, session.read(cpu)) for cpu in range(len(self.rates))]:
            for view in one["views"][done:many]:
                recorder.handle(view)
            done = many
            self.test.assertEqual(recorder.read(cpu), items)
        tables = [session.tables(cpu) for cpu in range(len(self.rates))]
        self.test.assertEqual(tables, [recorder.tables(cpu) for cpu in range(len(self.rates))])
        self.test.assertEqual(session.variables(), recorder.meaning.variables())
        self.test.assertEqual(session.ended, recorder.meaning.ended)
        self.test.assertEqual(session.lost(), (recorder.lost()[0], len(session.lost_tries()), len(session.empty_calls()), recorder.lost()[1]))
        if recorder.lost()[1] == 0:
            self.compare_tables(one["script"], tables, recorder.deeds)
        return len(recorder.deeds)

    def compare_tables(self, script, tables, deeds):
        """The tables of all processors together are those of the log, if nothing was lost in them."""
        for i, (_, _, function) in enumerate(script[3]):
            put = {}
            for deed in deeds:
                if deed[:2] == ("put", i):
                    put.setdefault(deed[2], []).append(deed[3])
            merged = merge(function, [found[i] for found in tables])
            self.test.assertEqual(merged, {keys: kept(function, numbers) for keys, numbers in put.items()})


class Compared(unittest.TestCase):
    def test_drawn_runs(self):
        sessions, busy = 0, 0
        for seed in range(100):
            with self.subTest(seed=seed):
                followed = Followed(self, seed)
                followed.run()
                done = [followed.compare(number) for number in range(len(followed.sessions))]
                sessions += len(done)
                busy += sum(many > 5 for many in done)
        self.assertGreater(sessions, 250)
        self.assertGreater(busy, 150)


if __name__ == "__main__":
    unittest.main()
