"""Points 6.4 to 6.6: which code the judge takes."""

import random
import unittest

from clauses import DECLARED, script_of
from drawn_code import SCRIPT, drawn_code, drawn_row, second_judge
from drawn_scripts import drawn_script, drawn_views
from stores import drawn_store

from tapline.check import typed_script
from tapline.compile_clause import compile_clause
from tapline.judge import may_run
from tapline.run_code import run_code

END = ("end",)
NUMBER, TEXT = ("int", 5), ("str", "a")
# Globals 0 and 1 are numbers, 2 a text; arrays 0 [int] of numbers, 1 [str, int] of texts; thread variables 0 a number, 1 a text.
# Tables 0 hits, 1 per [int], 2 by [str, int], of count, sum and count.
OF_TABLES = typed_script(DECLARED + "probe tick { @hits = count(); @per[1] = sum(2); @by[\"a\", 1] = count(); }")
# Puts numbers into the registers 0 and 1 and texts into 2 and 3, and sets the places 0 (int) and 1 (str).
BEGIN = (("const", 0, NUMBER), ("const", 1, NUMBER), ("const", 2, TEXT), ("const", 3, TEXT), ("keep", 0, 0), ("keep", 1, 2))
KINDS = ("int", "str", "int", "str")


class Judged(unittest.TestCase):
    def judge(self, taken, code, own=()):
        self.assertIs(may_run(code, OF_TABLES, own), taken, code)

    def yes(self, *rows, kinds=KINDS, own=()):
        """These rows behind BEGIN, before an end."""
        self.judge(True, (kinds, BEGIN + rows + (END,)), own)

    def no(self, *rows, kinds=KINDS, own=()):
        self.judge(False, (kinds, BEGIN + rows + (END,)), own)

    def behind(self, row):
        """The same where it cannot be reached."""
        return (("jump", len(BEGIN) + 2), row)


class Forms(Judged):
    def test_things_that_are_no_code(self):
        for thing in (None, True, 0, "", "end", (), ((),), ((), ()), ((), (), ()), ((), None), (None, (END,)), ((), [END]), ([], (END,)),
                      (("bool",), (END,)), ((), ("end",)), ((), (("end", 0),)), ((), (("nothing",), END)), ((), ((), END))):
            self.judge(False, thing)
        self.judge(True, ((), (END,)))

    def test_constants_and_parts_in_reach_and_beyond(self):
        for row in (("const", 0, ("int", 2 ** 63)), ("const", 0, ("int", True)), ("const", 0, ("str", "x" * 33)), ("const", 0, ("str", "%")),
                    ("const", 8, NUMBER), ("const", -1, NUMBER), ("const", True, NUMBER), ("view", 0, "arg"), ("arg", 0, 4), ("reg", 0, -1),
                    ("op", 0, "==", 0, 0), ("compare", 0, "+", 0, 0), ("record", "fault", ()), ("skip", 0), ("put", 0, (), -2),
                    ("minus", 0, 8), ("zero", -1, len(BEGIN) + 2), ("get", 0, -1), ("global", 0, -1), ("get", 0, None)):
            self.no(row)
            self.no(*self.behind(row))

    def test_places_that_the_code_does_not_have(self):
        for row in (("get", 4, 4), ("keep", 4, 0), ("record", "say", (0, 4)), ("array", 4, 0, (4,)), ("setarray", 0, (9,), 0),
                    ("put", 1, (4,), 0)):
            self.no(row)
            self.no(*self.behind(row))
        self.yes(*self.behind(("get", 4, 3)))
        self.yes(*self.behind(("record", "say", (0, 3))))

    def test_indexes_of_the_script(self):
        for row in (("global", 4, 3), ("setglobal", 3, 0), ("thread", 4, 2), ("setthread", 2, 0), ("array", 4, 2, (0,)), ("setarray", 2, (0,), 0),
                    ("put", 3, (), -1), ("global", 4, 20000)):
            self.no(row)
            self.no(*self.behind(row))
        self.yes(("global", 4, 2), ("setglobal", 2, 4), ("thread", 5, 1), ("setthread", 1, 5), ("array", 6, 1, (1, 0)), ("put", 2, (1, 0), -1))

    def test_each_sort_of_index_has_a_bound_of_its_own(self):
        script = typed_script("str g; int a[int]; int b[int]; int c[int]; thread int t; thread int u;"
                              "probe tick { @w = sum(1); @x = sum(1); @y = sum(1); @z = sum(1); }")
        for many, rows in ((1, lambda i: (("global", 0, i), ("setglobal", i, 0))), (2, lambda i: (("thread", 0, i), ("setthread", i, 0))),
                           (3, lambda i: (("array", 0, i, (0,)), ("setarray", i, (0,), 0))), (4, lambda i: (("put", i, (), 0),) * 2)):
            for i in range(6):
                for row in rows(i):
                    self.assertIs(may_run((("int",), (END, row, END)), script, ()), i < many, row)

    def test_how_many_keys(self):
        for row in (("array", 4, 0, ()), ("array", 4, 0, (0, 0)), ("array", 4, 1, (1,)), ("array", 4, 1, (1, 0, 0)), ("setarray", 0, (), 0),
                    ("setarray", 0, (0, 0), 0), ("setarray", 1, (1,), 2), ("put", 0, (0,), -1), ("put", 1, (), 0), ("put", 1, (0, 0), 0),
                    ("put", 2, (1,), -1)):
            self.no(row)
            self.no(*self.behind(row))
        self.yes(("array", 4, 0, (0,)), ("array", 4, 1, (1, 0)), ("setarray", 0, (0,), 0), ("setarray", 1, (1, 0), 2), ("put", 0, (), -1),
                 ("put", 1, (0,), 0), ("put", 2, (1, 0), -1))

    def test_the_register_of_a_put(self):
        for row in (("put", 0, (), 0), ("put", 2, (1, 0), 1), ("put", 1, (0,), -1)):
            self.no(row)
            self.no(*self.behind(row))

    def test_the_kinds_of_the_locals(self):
        self.yes(own=())
        for own in (("int",), ("int", "str"), ("int", "str", "int"), KINDS):
            self.yes(own=own)
        for own in (("str",), ("int", "int"), ("int", "str", "int", "int"), KINDS + ("int",), KINDS + ("int", "str")):
            self.no(own=own)
        self.judge(False, ((), (END,)), ("int",))
        self.judge(True, (("str",), (END,)), ("str",))


class Targets(Judged):
    def test_they_lead_forward(self):
        for word in (("jump",), ("zero", 0)):
            for t, taken in ((0, False), (5, False), (6, False), (7, True), (8, True), (9, False), (20000, False)):
                self.judge(taken, (KINDS, BEGIN + (word + (t,), ("skip",), END)))

    def test_also_where_they_cannot_be_reached(self):
        for word in (("jump",), ("zero", 0)):
            for t, taken in ((0, False), (6, False), (7, False), (8, True), (9, True), (10, False)):
                self.judge(taken, (KINDS, BEGIN + (("jump", 8), word + (t,), ("skip",), END)))

    def test_the_last_row_is_an_end(self):
        for last in (("stop",), ("skip",), ("jump", 0), ("jump", 1), ("const", 0, NUMBER), ("record", "say", ()), ("zero", 0, 1)):
            self.judge(False, (KINDS, (last,)))
            self.judge(False, (KINDS, BEGIN + (END, last)))
        self.judge(False, (KINDS, ()))
        self.judge(True, (KINDS, (END,)))
        self.judge(True, (KINDS, (END, END)))
        self.judge(True, (KINDS, (("stop",), END)))

    def test_beyond_ten_thousand(self):
        many = 10005
        rows = (("const", 0, NUMBER), ("keep", many - 1, 0), ("jump", many)) + (("skip",),) * (many - 3)
        kinds = ("int",) * many
        self.judge(True, (kinds, rows + (("get", 1, many - 1), ("zero", 1, many + 2), END)))
        self.judge(False, (kinds, rows + (("get", 1, many - 2), ("zero", 1, many + 2), END)))
        self.judge(False, (kinds, rows + (("get", 1, many), ("zero", 1, many + 2), END)))
        self.judge(False, (kinds, rows + (("get", 1, many - 1), ("zero", 1, many + 3), END)))


class Kinds(Judged):
    def test_operands_of_the_wrong_kind(self):
        n, s = 0, 2
        for row in (("op", 4, "+", n, s), ("op", 4, "mod", s, n), ("minus", 4, s), ("not", 4, s), ("text", 4, s), ("byte", 4, s), ("zero", s, 7),
                    ("speculate", s), ("commit", s), ("discard", s), ("len", 4, n), ("cat", 4, n, s), ("cat", 4, s, n), ("sub", 4, n, n, n),
                    ("sub", 4, s, s, n), ("sub", 4, s, n, s), ("compare", 4, "==", n, s), ("compare", 4, "<", s, n), ("keep", 2, s),
                    ("keep", 3, n), ("setglobal", 0, s), ("setglobal", 2, n), ("setthread", 0, s), ("setthread", 1, n),
                    ("setarray", 0, (0,), s), ("setarray", 1, (1, 0), n), ("put", 1, (0,), s), ("array", 4, 0, (1,)), ("array", 4, 1, (0, 1)),
                    ("array", 4, 1, (1, 1)), ("setarray", 0, (1,), n), ("setarray", 1, (0, 0), s), ("put", 1, (1,), n), ("put", 2, (1, 1), -1),
                    ("put", 2, (0, 0), -1)):
            self.no(row)
            self.yes(*self.behind(row[:-1] + (8,) if row[0] == "zero" else row))

    def test_operands_of_the_right_kind(self):
        n, m, s, t = 0, 1, 2, 3
        for row in (("op", 4, "+", n, m), ("op", 4, "mod", m, m), ("minus", 4, n), ("not", 4, m), ("text", 4, n), ("byte", 4, n), ("zero", n, 7),
                    ("speculate", m), ("commit", n), ("discard", n), ("len", 4, s), ("cat", 4, s, t), ("sub", 4, s, n, m),
                    ("compare", 4, "==", n, m), ("compare", 4, "<", s, t), ("keep", 2, m), ("keep", 3, t), ("setglobal", 0, n),
                    ("setglobal", 2, s), ("setthread", 0, n), ("setthread", 1, s), ("setarray", 0, (0,), n), ("setarray", 1, (1, 0), s),
                    ("put", 1, (0,), n), ("array", 4, 0, (0,)), ("array", 4, 1, (1, 0)), ("put", 2, (1, 0), -1), ("record", "say", (0, 1, 0))):
            self.yes(row)

    def test_operands_that_were_not_set(self):
        for row in (("op", 4, "+", 0, 4), ("op", 4, "+", 4, 0), ("minus", 4, 4), ("not", 4, 7), ("text", 4, 5), ("byte", 4, 4), ("zero", 4, 7),
                    ("speculate", 4), ("commit", 4), ("discard", 4), ("len", 4, 4), ("cat", 4, 2, 4), ("cat", 4, 4, 2), ("sub", 4, 4, 0, 0),
                    ("sub", 4, 2, 4, 0), ("sub", 4, 2, 0, 4), ("compare", 4, "==", 0, 4), ("compare", 4, "==", 4, 2), ("compare", 4, "==", 4, 4),
                    ("keep", 2, 4), ("setglobal", 0, 4), ("setthread", 0, 4), ("setarray", 0, (0,), 4), ("put", 1, (0,), 4)):
            self.no(row)
            self.yes(*self.behind(row[:-1] + (8,) if row[0] == "zero" else row))

    def test_places_that_were_not_set(self):
        for row in (("get", 4, 2), ("get", 4, 3), ("record", "say", (2,)), ("record", "trace", (0, 1, 3)), ("array", 4, 0, (2,)),
                    ("array", 4, 1, (3, 0)), ("setarray", 0, (2,), 0), ("setarray", 1, (1, 2), 2), ("put", 1, (2,), 0), ("put", 2, (3, 0), -1)):
            self.no(row)
            self.yes(*self.behind(row))
        self.yes(("keep", 2, 0), ("keep", 3, 3), ("record", "trace", (0, 1, 2, 3)), ("get", 4, 2), ("get", 5, 3))

    def test_results(self):
        numbers = (("op", 4, "*", 0, 0), ("compare", 4, "==", 2, 2), ("minus", 4, 0), ("not", 4, 0), ("len", 4, 2), ("byte", 4, 0), ("spec", 4),
                   ("arg", 4, 0), ("reg", 4, 0), ("view", 4, "now"), ("view", 4, "cpu"), ("view", 4, "pid"), ("view", 4, "tid"),
                   ("view", 4, "at"), ("const", 4, NUMBER), ("get", 4, 0), ("global", 4, 1), ("thread", 4, 0), ("array", 4, 0, (0,)))
        texts = (("cat", 4, 2, 2), ("sub", 4, 2, 0, 0), ("text", 4, 0), ("view", 4, "name"), ("const", 4, TEXT), ("get", 4, 1),
                 ("global", 4, 2), ("thread", 4, 1), ("array", 4, 1, (1, 0)))
        for row in numbers:
            self.yes(row, ("op", 5, "+", 4, 4), ("keep", 2, 4))
            self.no(row, ("len", 5, 4))
            self.no(row, ("keep", 3, 4))
        for row in texts:
            self.yes(row, ("len", 5, 4), ("keep", 3, 4))
            self.no(row, ("minus", 5, 4))
            self.no(row, ("keep", 2, 4))

    def test_a_register_changes_its_kind(self):
        self.yes(("text", 0, 0), ("len", 0, 0), ("text", 0, 0), ("cat", 0, 0, 2))
        self.no(("text", 0, 0), ("minus", 0, 0))


class TwoWays(Judged):
    """A zero at the row 6 leads to the row 9, past the rows 7 and 8."""

    def two(self, one, other, use, target=9):
        return ("zero", 0, target), one, other, use

    def test_set_on_one_way_alone(self):
        self.no(*self.two(("const", 4, NUMBER), ("skip",), ("minus", 5, 4)))
        self.no(*self.two(("keep", 2, 0), ("skip",), ("get", 5, 2)))
        self.yes(*self.two(("const", 4, NUMBER), ("minus", 5, 4), ("skip",)))
        self.yes(*self.two(("keep", 2, 0), ("get", 5, 2), ("skip",)))

    def test_set_to_two_kinds(self):
        self.no(*self.two(("const", 0, TEXT), ("skip",), ("minus", 5, 0)))
        self.no(*self.two(("const", 0, TEXT), ("skip",), ("len", 5, 0)))
        self.no(*self.two(("const", 0, TEXT), ("skip",), ("compare", 5, "==", 0, 0)))
        self.yes(*self.two(("const", 0, TEXT), ("len", 5, 0), ("const", 0, NUMBER)))
        self.yes(*self.two(("const", 0, TEXT), ("const", 0, NUMBER), ("minus", 5, 0)))

    def test_set_on_both(self):
        rows = ("zero", 0, 9), ("const", 4, NUMBER), ("jump", 10)
        self.yes(*rows, ("const", 4, NUMBER), ("minus", 5, 4))
        self.no(*rows, ("const", 4, TEXT), ("minus", 5, 4))
        self.no(*rows, ("const", 4, TEXT), ("len", 5, 4))
        self.yes(*rows, ("const", 4, TEXT), ("minus", 5, 0))
        self.no(*rows, ("const", 5, NUMBER), ("minus", 5, 4))
        self.yes(("zero", 0, 9), ("keep", 2, 0), ("jump", 10), ("keep", 2, 1), ("get", 4, 2))
        self.no(("zero", 0, 9), ("keep", 2, 0), ("jump", 10), ("keep", 3, 3), ("get", 4, 2))

    def test_a_way_that_does_not_come_back(self):
        for row in (END, ("stop",)):
            self.yes(("zero", 0, 9), ("const", 0, TEXT), row, ("minus", 0, 0))
            self.yes(row, ("minus", 0, 7), ("get", 7, 3))

    def test_what_cannot_be_reached_sets_nothing_aside(self):
        self.yes(("const", 4, NUMBER), ("jump", 9), ("const", 4, TEXT), ("minus", 5, 4))
        self.yes(("jump", 9), ("zero", 7, 10), ("minus", 4, 7), ("minus", 5, 0))

    def test_three_ways(self):
        rows = ("zero", 0, 11), ("zero", 1, 11), ("const", 4, NUMBER), ("skip",), ("jump", 12), ("const", 4, NUMBER), ("minus", 5, 4)
        self.yes(*rows)
        self.no(*(rows[:5] + (("skip",),) + rows[6:]))
        self.no(*(rows[:1] + (("zero", 1, 12),) + rows[2:]))


class OfClauses(unittest.TestCase):
    def test_compiled_code(self):
        for seed in range(150):
            script = drawn_script(seed, depth=seed % 6 + 1)
            for index, clause in enumerate(script[4]):
                code = compile_clause(script, index)
                self.assertIs(may_run(code, script, clause[2]), True)
                self.assertIs(may_run((code[0] + ("int", "str"), code[1]), script, clause[2]), True)
                turned = tuple("str" if kind == "int" else "int" for kind in clause[2])
                self.assertIs(may_run(code, script, turned), clause[2] == ())

    def test_all_kinds_of_clauses(self):
        for body in ("", "int i; str w; trace(i, w);", "stop(); trace(1 / 0);", "a[g] = a[g + 1] && 1 ? 4 : h; b[s, -1] = name;",
                     "self.u = cat(s, self.u); self.t = byte(r0) || spec();", "@q[g, s] = least(1); @c = count(); @h = hist(now);",
                     "speculate(spec()); say(1); commit(1); discard(g);"):
            for head in ("", "when g && len(s) ", "when 0 "):
                script = script_of(body, head)
                self.assertIs(may_run(compile_clause(script, 0), script, script[4][0][2]), True, body)

    def test_another_script(self):
        script = script_of("trace(h);")
        self.assertIs(may_run(compile_clause(script, 0), typed_script("int h; probe tick { }"), ()), False)

    def test_drawn_code(self):
        for seed in range(300):
            code, own = drawn_code(seed)
            self.assertIs(may_run(code, SCRIPT, own), True, code)

    def test_it_ends_with_what_it_needs(self):
        for seed in range(200):
            code, _ = drawn_code(seed)
            for k, view in enumerate(drawn_views(seed, 12)[::5]):
                deeds = run_code(code, view, drawn_store(SCRIPT, seed + k))
                self.assertLessEqual(len(deeds), len(code[1]))

    def test_changed_code_against_the_second_judge(self):
        counts = {True: 0, False: 0}
        for seed in range(1500):
            chance = random.Random(seed)
            (kinds, rows), own = drawn_code(seed)
            for _ in range(chance.randint(1, 2)):
                r = chance.randrange(len(rows))
                change = chance.choice("row row row take add kinds".split())
                new = drawn_row(chance.random(), len(rows))
                if change == "row":
                    rows = rows[:r] + (new,) + rows[r + 1:]
                elif change == "take" and len(rows) > 1:
                    rows = rows[:r] + rows[r + 1:]
                elif change == "add":
                    rows = rows[:r] + (new,) + rows[r:]
                elif kinds:
                    place = chance.randrange(len(kinds))
                    kinds = kinds[:place] + (chance.choice(("int", "str")),) + kinds[place + 1:]
            taken = second_judge((kinds, rows), own)
            self.assertIs(may_run((kinds, rows), SCRIPT, own), taken, (seed, rows))
            counts[taken] += 1
        self.assertGreater(min(counts.values()), 100, counts)


if __name__ == "__main__":
    unittest.main()
