"""Point 6.3: the code of a clause does what its meaning is, with each store."""

import unittest

from clauses import DECLARED, script_of
from drawn_scripts import drawn_script, drawn_views
from second_meaning import SecondMeaning
from stores import drawn_store

from tapline.check import typed_script
from tapline.clause_meaning import do_clause
from tapline.code import following, is_code
from tapline.compile_clause import compile_clause
from tapline.run_code import run_code


class Compiled(unittest.TestCase):
    def test_the_first_places_are_the_locals(self):
        for own in ((), ("int",), ("str",), ("int", "str", "str"), ("str", "int", "str", "int")):
            declared = "".join(f"{kind} x{k}; " for k, kind in enumerate(own))
            for body in ("", "trace(1, \"a\", g, s);", "a[g * (g + 1)] = 4;"):
                kinds, rows = compile_clause(script_of(declared + body), 0)
                self.assertEqual(kinds[:len(own)], own)
                self.assertEqual(rows[-1], ("end",))
                self.assertTrue(is_code((kinds, rows)))

    def test_a_clause_without_actions(self):
        for head in ("", "when g ", "when 0 "):
            script = script_of("", head)
            code = compile_clause(script, 0)
            self.assertTrue(is_code(code))
            self.assertEqual(code[1][-1], ("end",))
            self.assertEqual(run_code(code, drawn_views(0)[1], drawn_store(script, 0)), ())

    def test_each_clause_by_its_index(self):
        script = typed_script(DECLARED + "probe tick { trace(1); } probe tick { int i; say(2); } probe tick { str w; }")
        kinds = [compile_clause(script, index)[0] for index in range(3)]
        self.assertEqual(kinds[1][:1] + kinds[2][:1], ("int", "str"))
        for index, sorts in enumerate((["trace"], ["say"], [])):
            deeds = run_code(compile_clause(script, index), drawn_views(0)[1], drawn_store(script, 0))
            self.assertEqual([deed[2] for deed in deeds], sorts)

    def test_all_ways_lead_forward(self):
        for seed in range(60):
            script = drawn_script(seed, depth=seed % 6 + 1)
            for index, clause in enumerate(script[4]):
                code = compile_clause(script, index)
                self.assertTrue(is_code(code))
                self.assertEqual(code[0][:len(clause[2])], clause[2])
                for r in range(len(code[1])):
                    self.assertTrue(all(t > r for t in following(code, r)))

    def test_places_are_used_again(self):
        code = compile_clause(script_of("int i; " + "trace(g, g, s, g, g, s); a[g + i] = 5;" * 2500), 0)
        self.assertTrue(is_code(code))
        self.assertLess(len(code[0]), 30)

    def test_the_same_code_each_time(self):
        script = drawn_script(5)
        self.assertEqual(compile_clause(script, 0), compile_clause(script, 0))
        self.assertEqual(script, drawn_script(5))


class Compared(unittest.TestCase):
    def test_drawn_clauses(self):
        words = {}
        for seed in range(400):
            script = drawn_script(seed, depth=seed % 6 + 1)
            views = drawn_views(seed)
            for index, clause in enumerate(script[4]):
                code = compile_clause(script, index)
                for k, view in enumerate(views[seed % 5::9]):
                    stores = [drawn_store(script, seed + k) for _ in range(3)]
                    deeds = run_code(code, view, stores[0])
                    self.assertEqual(repr(deeds), repr(SecondMeaning(clause, view, stores[1]).run()), (seed, index))
                    self.assertEqual(repr(deeds), repr(do_clause(script, index, view, stores[2])), (seed, index))
                    self.assertEqual(repr(stores[0].log), repr(stores[1].log))
                    self.assertEqual(repr(stores[0].log), repr(stores[2].log))
                    for deed in deeds:
                        word = deed[:2] if deed[0] == "fault" else deed[:1]
                        words[word] = words.get(word, 0) + 1
                    for told in stores[0].log:
                        words[told[0]] = words.get(told[0], 0) + 1
        self.assertEqual(len(words), 10 + 13, words)
        self.assertGreater(min(words.values()), 20, words)


if __name__ == "__main__":
    unittest.main()
