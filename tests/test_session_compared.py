"""Points 9.1 to 9.4, 0.3, 6.3 to 6.6, 6.10 and 6.11: drawn scripts in sessions of all sorts, at the same views."""

import random
import unittest

from drawn_scripts import drawn_script, drawn_views
from sessions import LimitedSession, Recorder, drawn_sizes, session_script

from tapline.aggregates import kept
from tapline.compile_clause import compile_clause
from tapline.meaning import Meaning
from tapline.run import codes_of
from tapline.session import Session


def ways(script):
    """The codes with which a session may run."""
    return None, tuple(compile_clause(script, k) for k in range(len(script[4]))), codes_of(script)


def run(session, views, readings):
    """Handles views; readings has the processors that are read behind the view k. What was read, in order."""
    read = []
    for k, view in enumerate(views):
        session.handle(view)
        for cpu in readings.get(k, ()):
            read.append((cpu, session.read(cpu)))
    return read + [(cpu, session.read(cpu)) for cpu in range(4)]


def drawn_readings(seed, many):
    chance = random.Random(seed)
    share = chance.choice((0, 0.02, 0.2))
    return {k: [chance.randrange(4) for _ in range(chance.choice((1, 2)))] for k in range(many) if chance.random() < share}


def told(session):
    return (session.ended, session.lost(), session.lost_tries(), session.empty_calls(), session.variables())


class Compared(unittest.TestCase):
    def check(self, script, sizes, views, readings, seen):
        limited = LimitedSession(script, sizes)
        expected = run(limited, views, readings)
        numbers = [limited.numbers(cpu) for cpu in range(4)]
        tables = [tuple({keys: kept(script[3][i][2], row) for keys, row in one.items()} for i, one in enumerate(tables))
                  for tables in numbers]
        for codes in ways(script):
            session = Session(script, sizes, codes)
            self.assertEqual(repr(run(session, views, readings)), repr(expected))
            self.assertEqual(repr(told(session)), repr(told(limited)))
            self.assertEqual([session.tables(cpu) for cpu in range(4)], tables)
        recorder = Recorder(script, sizes, limited.lost_tries(), limited.empty_calls())
        self.assertEqual(run(recorder, views, readings), expected)
        self.assertEqual([recorder.tables(cpu) for cpu in range(4)], tables)
        self.assertEqual((recorder.meaning.variables(), recorder.meaning.ended), (limited.variables(), limited.ended))
        self.assertEqual((recorder.meaning.tries, recorder.meaning.calls), (len(limited.store.tries), len(limited.store.calls)))
        self.assertEqual(recorder.lost(), limited.lost()[::3])
        self.count(recorder, limited, expected, seen)

    def count(self, recorder, limited, read, seen):
        for deed in recorder.deeds:
            word = deed[0] + ("" if deed[0] != "record" or deed[1] is None else " of a speculation")
            seen[word] = seen.get(word, 0) + 1
        for k, word in enumerate(("lost records", "lost tries", "empty calls", "lost puts")):
            seen[word] = seen.get(word, 0) + (limited.lost()[k] > 0)
        seen["ended"] = seen.get("ended", 0) + limited.ended
        seen["lost items"] = seen.get("lost items", 0) + sum(item[0] == "lost" for _, items in read for item in items)

    def test_drawn_scripts(self):
        seen = {}
        for seed in range(600):
            script = session_script(seed) if seed % 3 else drawn_script(seed, depth=seed % 4)
            views = drawn_views(seed, 150)
            with self.subTest(seed=seed):
                self.check(script, drawn_sizes(seed if seed > 30 else seed % 4), views, drawn_readings(seed, len(views)), seen)
        self.assertGreater(min(seen.values()), 30, seen)
        self.assertEqual(len(seen), 8 + 6, seen)

    def test_large_sizes_lose_nothing(self):
        for seed in range(0, 60, 3):
            script, views = session_script(seed), drawn_views(seed, 60)
            session = Session(script, drawn_sizes(1), codes_of(script))
            run(session, views, {})
            self.assertEqual(session.lost(), (0, 0, 0, 0))
            self.assertEqual((session.lost_tries(), session.empty_calls()), ((), ()))
            meaning = Meaning(script, (), ())
            for view in views:
                meaning.handle(view)
            self.assertEqual(session.variables(), meaning.variables())

    def test_the_arguments_stay(self):
        for seed in range(20):
            script, views, sizes = drawn_script(seed), drawn_views(seed, 40), drawn_sizes(seed)
            codes = codes_of(script)
            before = repr((script, views, sizes, codes))
            session = Session(script, sizes, codes)
            run(session, views, {})
            self.assertEqual(repr((script, views, sizes, codes)), before)


if __name__ == "__main__":
    unittest.main()
