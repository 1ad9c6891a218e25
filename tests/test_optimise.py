"""Points 6.10 and 6.11: the optimiser."""

import unittest

from clauses import script_of
from drawn_code import SCRIPT, drawn_code
from drawn_scripts import drawn_script, drawn_views
from second_claims import second_step, strongest
from stores import drawn_store

from tapline.compile_clause import compile_clause
from tapline.errors import BadStep
from tapline.judge import may_run
from tapline.optimise import optimise
from tapline.run_code import run_code
from tapline.steps import take_step

WORDS = ("fold", "decide", "drop", "forget", "unreach", "squeeze")


class Optimised(unittest.TestCase):
    def check(self, code, script, own, views, every=1):
        """Follows the steps; behind some of them (each, with every = 1) the code is run."""
        new, steps = optimise(code)
        self.assertIs(type(steps), list)
        expected = [self.run_at(code, script, view) for view in views]
        now = code
        for k, step in enumerate(steps):
            self.assertEqual(now[0], code[0])
            now = take_step(now, step)
            if k % every == 0 or k + 1 == len(steps):
                self.assertTrue(may_run(now, script, own))
                self.assertEqual([self.run_at(now, script, view) for view in views], expected)
        self.assertEqual(repr(now), repr(new))
        self.no_step_is_left(new)
        return [step[0] for step in steps]

    def run_at(self, code, script, view):
        store = drawn_store(script, view[0][2])
        return run_code(code, view, store), store.doings()

    def no_step_is_left(self, code):
        for word in WORDS:
            claim = () if word == "squeeze" else (strongest(code, word),)
            for r in range(len(code[1])):
                self.assertIsNone(second_step(code, (word, r) + claim))
                if r % 5 == 0:
                    with self.assertRaises(BadStep):
                        take_step(code, (word, r) + claim)

    def test_compiled_code(self):
        taken = []
        for seed in range(45):
            script = drawn_script(seed, depth=seed % 5 + 1)
            for index, clause in enumerate(script[4]):
                taken += self.check(compile_clause(script, index), script, clause[2], drawn_views(seed)[1::25], every=9)
        self.assertEqual(set(taken), set(WORDS))

    def test_drawn_code(self):
        taken = []
        for seed in range(200):
            code, own = drawn_code(seed)
            taken += self.check(code, SCRIPT, own, drawn_views(seed, 12)[1::6])
        self.assertEqual(set(taken), set(WORDS))

    def test_nothing_to_do(self):
        for code in (((), (("end",),)), (("int",), (("stop",), ("end",))), (("int",), (("spec", 0), ("keep", 0, 0), ("record", "say", (0,)), ("end",)))):
            self.assertEqual(optimise(code), (code, []))

    def test_again(self):
        for seed in range(60):
            code, _ = drawn_code(seed)
            new, _ = optimise(code)
            self.assertEqual(optimise(new), (new, []))

    def test_the_code_stays(self):
        code = (("int",), (("const", 0, ("int", 1)), ("skip",), ("end",)))
        new, steps = optimise(code)
        self.assertEqual(code, (("int",), (("const", 0, ("int", 1)), ("skip",), ("end",))))
        self.assertEqual(new, (("int",), (("end",),)))
        steps.clear()
        self.assertNotEqual(optimise(code)[1], [])


class Examples(unittest.TestCase):
    def rows(self, body, head=""):
        script = script_of(body, head)
        return optimise(compile_clause(script, 0))[0][1]

    def test_constants(self):
        words = lambda body, head="": [row[0] for row in self.rows(body, head)]
        self.assertEqual(self.rows("h = 2 + 3 * 4 - len(\"abc\");"), (("const", 0, ("int", 11)), ("setglobal", 1, 0), ("end",)))
        self.assertEqual(self.rows("s = 1 && 2 ? cat(\"a\", text(7)) : name;"), (("const", 0, ("str", "a7")), ("setglobal", 2, 0), ("end",)))
        self.assertEqual(self.rows("trace();", "when 3 < 2 "), (("end",),))
        self.assertEqual(self.rows("trace();", "when 3 > 2 "), (("record", "trace", ()), ("end",)))
        self.assertEqual(words("stop(); trace(g);"), ["stop", "end"])
        self.assertEqual(words("h = 1 / 0;"), ["const", "const", "op", "setglobal", "end"])

    def test_locals_that_are_not_read(self):
        self.assertEqual(self.rows("int i; str w; i = g; w = cat(w, \"x\"); i = now;"),
                         (("const", 0, ("str", "")), ("keep", 1, 0), ("get", 0, 1), ("const", 1, ("str", "x")), ("cat", 0, 0, 1), ("end",)))
        self.assertEqual(self.rows("int i; i = g + h; i = 4;"), (("end",),))

    def test_what_does_something_stays(self):
        rows = self.rows("int i; i = spec(); i = byte(r0); i = g / h; i = g mod h;")
        self.assertEqual([row[0] for row in rows if row[0] in ("spec", "byte", "op")], ["spec", "byte", "op", "op"])


class RowsThatCannotBeReached(unittest.TestCase):
    def test_they_hide_nothing(self):
        """A row that cannot be reached leads to one that can, and knows less there."""
        rows = (("const", 1, ("int", 5)), ("jump", 3), ("arg", 1, 0), ("minus", 2, 1), ("keep", 0, 2), ("record", "say", (0,)), ("end",))
        new, _ = optimise((("int",), rows))
        self.assertEqual(new[1], (("const", 2, ("int", -5)), ("keep", 0, 2), ("record", "say", (0,)), ("end",)))

    def test_ways_that_end_by_a_decision(self):
        rows = (("const", 0, ("int", 0)), ("zero", 0, 4), ("const", 1, ("str", "x")), ("jump", 5), ("const", 1, ("str", "y")), ("keep", 0, 1),
                ("len", 2, 1), ("zero", 2, 9), ("record", "say", (0,)), ("end",))
        new, _ = optimise((("str",), rows))
        self.assertEqual(new[1], (("const", 1, ("str", "y")), ("keep", 0, 1), ("record", "say", (0,)), ("end",)))

    def test_an_end_that_is_not_reached_stays(self):
        new, _ = optimise(((), (("jump", 2), ("skip",), ("stop",), ("spec", 0), ("end",))))
        self.assertEqual(new[1], (("stop",), ("end",)))


if __name__ == "__main__":
    unittest.main()
