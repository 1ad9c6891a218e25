"""Points 2.1 to 2.6: typed scripts and the kinds of their expressions."""

import unittest

from tapline.check import EVENTS, check_script, kind_of, typed_script
from tapline.errors import BadNumber, Unexpected, UnknownName
from tapline.parser import parse

ALL = """
probe insn:1:2, entry:3, return, begin when late == 1 && n != "q" {
  int i; str t; int w;
  i = n2 + arg0 - r3 * 2 / i mod late; t = cat(s["k", 1], text(self.mark)); self.mark = byte(at); self.note = name;
  s[t, i] = sub(t, 0, len(t)); late = !(now < cpu || pid >= tid); c[2] = -self.mark; flags[t, i, t] = spec();
  @hits = count(); @per[t, i] = sum(i); @low = least(now); @high[1] = most(2); @spread[t] = hist(w ? i : 3);
  trace(t, i, "x"); say(); speculate(i); commit(self.mark); discard(0); stop();
}
int n2; str n; thread int mark; str s[str, int]; int c[int]; thread str note; int flags[str, int, str];
probe close, end:*:7 { say(n); @low = least(1); @hits = count(); @more = count(); }
int late;
"""


def whole():
    """The typed script of ALL, written out."""
    i, t, w = ("local", 0), ("local", 1), ("local", 2)
    one, two = ("int", 1), ("int", 2)
    mark, note = ("thread", 0), ("thread", 1)
    n2, n, late = ("global", 0), ("global", 1), ("global", 2)
    predicate = ("and", ("op", "==", late, one), ("same", "!=", n, ("str", "q")))
    product = ("op", "mod", ("op", "/", ("op", "*", ("reg", 3), two), i), late)
    first = (
        ("set", i, ("op", "-", ("op", "+", n2, ("arg", 0)), product)),
        ("set", t, ("cat", ("array", 0, (("str", "k"), one)), ("text", mark))),
        ("set", mark, ("byte", ("at",))),
        ("set", note, ("name",)),
        ("set", ("array", 0, (t, i)), ("sub", t, ("int", 0), ("len", t))),
        ("set", late, ("not", ("or", ("op", "<", ("now",), ("cpu",)), ("op", ">=", ("pid",), ("tid",))))),
        ("set", ("array", 1, (two,)), ("minus", mark)),
        ("set", ("array", 2, (t, i, t)), ("spec",)),
        ("put", 0, (), None),
        ("put", 1, (t, i), i),
        ("put", 2, (), ("now",)),
        ("put", 3, (one,), two),
        ("put", 4, (t,), ("if", w, i, ("int", 3))),
        ("trace", (t, i, ("str", "x"))),
        ("say", ()),
        ("speculate", i),
        ("commit", mark),
        ("discard", ("int", 0)),
        ("stop",),
    )
    second = (("say", (n,)), ("put", 2, (), one), ("put", 0, (), None), ("put", 5, (), None))
    return (
        (("n2", "int"), ("n", "str"), ("late", "int")),
        (("s", ("str", "int"), "str"), ("c", ("int",), "int"), ("flags", ("str", "int", "str"), "int")),
        (("mark", "int"), ("note", "str")),
        (("hits", (), "count"), ("per", ("str", "int"), "sum"), ("low", (), "least"), ("high", ("int",), "most"),
         ("spread", ("str",), "hist"), ("more", (), "count")),
        (((("insn", 1, 2), ("entry", 3, None), ("return", None, None), ("begin", None, None)),
          predicate, ("int", "str", "int"), first),
         ((("close", None, None), ("end", None, 7)), None, (), second)),
    )


def no_lists(tree):
    if isinstance(tree, tuple):
        return all(no_lists(part) for part in tree)
    return tree is None or type(tree) in (int, str)


class Scripts(unittest.TestCase):
    def test_a_whole_script(self):
        self.assertEqual(typed_script(ALL), whole())
        self.assertTrue(no_lists(typed_script(ALL)))

    def test_the_tree_is_what_is_checked(self):
        tree = parse(ALL)
        self.assertEqual(check_script(tree), whole())
        self.assertEqual(tree, parse(ALL))

    def test_the_empty_script(self):
        self.assertEqual(check_script(()), ((), (), (), (), ()))
        self.assertEqual(typed_script("# nothing"), ((), (), (), (), ()))

    def test_an_empty_probe(self):
        self.assertEqual(typed_script("probe tick { }")[4], (((("tick", None, None),), None, (), ()),))

    def test_errors_of_texts_come_first(self):
        with self.assertRaises(Unexpected):
            typed_script("probe tick { a = 1; } int")
        with self.assertRaises(BadNumber):
            typed_script("probe tick { a = 1; } int 01")
        with self.assertRaises(UnknownName):
            typed_script("probe tick { a = 1; } int b;")


class Patterns(unittest.TestCase):
    def test_events(self):
        self.assertEqual(EVENTS, ("insn", "entry", "return", "fault", "on", "off", "end", "done", "tick"))

    def test_each_kind(self):
        for kind in EVENTS:
            for number in (None, 0, 5, 300):
                for at in (None, 0, 255, 2 ** 63 - 1):
                    script = (("probe", ((kind, number, at),), None, (), ()),)
                    self.assertEqual(check_script(script)[4][0][0], ((kind, number, at),))

    def test_begin_and_close(self):
        for kind in ("begin", "close"):
            self.assertEqual(typed_script(f"probe {kind} {{ }}")[4][0][0], ((kind, None, None),))
            self.assertEqual(typed_script(f"probe {kind}:*:* {{ }}")[4][0][0], ((kind, None, None),))


class Names(unittest.TestCase):
    def clause(self, text, index=0):
        return typed_script(text)[4][index]

    def test_spaces_of_names(self):
        typed = typed_script("int x; thread str x; probe tick { @x = count(); x = len(self.x); }")
        self.assertEqual(typed[:4], ((("x", "int"),), (), (("x", "str"),), (("x", (), "count"),)))
        self.assertEqual(typed[4][0][3], (("put", 0, (), None), ("set", ("global", 0), ("len", ("thread", 0)))))

    def test_a_thread_variable_may_have_the_name_of_an_array(self):
        typed = typed_script("int x[int]; thread int x; probe tick { self.x = x[1]; }")
        self.assertEqual(typed[4][0][3], (("set", ("thread", 0), ("array", 0, (("int", 1),))),))

    def test_a_local_may_have_the_name_of_a_thread_variable_or_a_table(self):
        clause = self.clause("thread int x; probe tick { str x; x = text(self.x); @x = sum(self.x); }")
        self.assertEqual(clause[3], (("set", ("local", 0), ("text", ("thread", 0))), ("put", 0, (), ("thread", 0))))

    def test_a_local_hides_a_variable(self):
        text = "str x; probe tick when x { int x; x = x + 1; } probe tick { x = cat(x, x); }"
        self.assertEqual(self.clause(text)[1:], (("local", 0), ("int",),
                         (("set", ("local", 0), ("op", "+", ("local", 0), ("int", 1))),)))
        self.assertEqual(self.clause(text, 1)[3], (("set", ("global", 0), ("cat", ("global", 0), ("global", 0))),))

    def test_a_local_hides_an_array(self):
        text = "int x[int]; probe tick when x { int x; x = 1; } probe tick when x[1] { x[2] = 1; }"
        self.assertEqual(self.clause(text)[1:], (("local", 0), ("int",), (("set", ("local", 0), ("int", 1)),)))
        self.assertEqual(self.clause(text, 1)[1], ("array", 0, (("int", 1),)))
        with self.assertRaises(UnknownName) as caught:
            typed_script("int x[int]; probe tick { int x; x = x[1]; }")
        self.assertEqual(caught.exception.word, "x")
        with self.assertRaises(UnknownName):
            typed_script("int x[int]; probe tick when x[1] { int x; }")

    def test_locals_belong_to_their_clause(self):
        text = "int y; probe tick { int x; int y; y = x; } probe tick { str x; int z; z = y; x = text(y); }"
        self.assertEqual(self.clause(text)[2:], (("int", "int"), (("set", ("local", 1), ("local", 0)),)))
        self.assertEqual(self.clause(text, 1)[2:], (("str", "int"),
                         (("set", ("local", 1), ("global", 0)), ("set", ("local", 0), ("text", ("global", 0))))))

    def test_declarations_behind_the_probes_that_use_them(self):
        typed = typed_script("probe tick { x = a[self.k]; } int x; int a[str]; thread str k;")
        self.assertEqual(typed[4][0][3], (("set", ("global", 0), ("array", 0, (("thread", 0),))),))

    def test_indexes_count_each_sort_of_its_own(self):
        typed = typed_script("""int a; int b[int]; thread int c; str d; str e[int]; thread str f; int g; int h[str];
            probe tick { trace(a, b[1], self.c, d, e[1], self.f, g, h["x"]); }""")
        one = (("int", 1),)
        self.assertEqual(typed[4][0][3], (("trace", (
            ("global", 0), ("array", 0, one), ("thread", 0), ("global", 1), ("array", 1, one), ("thread", 1),
            ("global", 2), ("array", 2, (("str", "x"),)))),))

    def test_arrays_with_one_to_three_keys(self):
        typed = typed_script("int a[str]; str b[int, str]; int c[int, int, str];")
        self.assertEqual(typed[1], (("a", ("str",), "int"), ("b", ("int", "str"), "str"),
                                    ("c", ("int", "int", "str"), "int")))


class Tables(unittest.TestCase):
    def test_order_of_the_first_places(self):
        typed = typed_script("""probe tick { @b = count(); @a[1] = sum(2); }
            probe end { @c["x", 1, name] = hist(1); @a[2] = sum(3); @b = count(); @d = most(1); @c["", 0, "y"] = hist(2);
            @e = least(1); }""")
        self.assertEqual(typed[3], (("b", (), "count"), ("a", ("int",), "sum"), ("c", ("str", "int", "str"), "hist"),
                                    ("d", (), "most"), ("e", (), "least")))
        self.assertEqual([action[1] for clause in typed[4] for action in clause[3]], [0, 1, 2, 1, 0, 3, 2, 4])

    def test_keys_and_values(self):
        typed = typed_script("""str s; probe tick { @t[s, 1] = sum(len(s)); @u[s] = count(); }""")
        s = ("global", 0)
        self.assertEqual(typed[4][0][3], (("put", 0, (s, ("int", 1)), ("len", s)), ("put", 1, (s,), None)))


class Kinds(unittest.TestCase):
    DECLARED = """int gi; str gs; thread int ti; thread str ts; int ai[int]; str as[str];
        probe tick { str a; int b; } probe tick { int a; str b; }"""
    KINDS = {
        "int": """1; now; cpu; pid; tid; at; arg0; arg3; r0; r3; -1; !1; 1 + 2; 1 - 2; 1 * 2; 1 / 2; 1 mod 2; 1 == 2;
            1 != 2; 1 < 2; 1 <= 2; 1 > 2; 1 >= 2; "a" == "b"; "a" != "b"; "a" < "b"; "a" <= "b"; "a" > "b"; "a" >= "b";
            1 && 2; 1 || 2; len("a"); byte(1); spec(); gi; self.ti; ai[1]; 1 ? 2 : 3; 1 ? 2 : 3 ? 4 : 5;
            1 ? 2 ? 3 : 4 : 5; 1 ? ai[1] : self.ti""",
        "str": """"a"; ""; name; cat("a", "b"); sub("a", 1, 2); text(1); gs; self.ts; as["x"]; 1 ? "a" : "b";
            1 ? 0 ? gs : "a" : name; 0 ? "a" : 0 ? "b" : "c" """,
    }

    def test_each_kind_of_expression(self):
        for kind, texts in self.KINDS.items():
            for text in texts.split(";"):
                with self.subTest(text=text):
                    typed = typed_script(self.DECLARED + "probe tick { trace(" + text + "); }")
                    self.assertEqual(kind_of(typed, 2, typed[4][2][3][0][1][0]), kind)

    def test_locals_of_the_clause(self):
        typed = typed_script(self.DECLARED)
        self.assertEqual([kind_of(typed, clause, ("local", i)) for clause in (0, 1) for i in (0, 1)],
                         ["str", "int", "int", "str"])
        choice = ("if", ("local", 1), ("local", 0), ("local", 0))
        self.assertEqual(kind_of(typed, 0, choice), "str")
        self.assertEqual(kind_of(typed, 1, choice), "int")

    def test_variables_of_each_index(self):
        typed = typed_script("""int a; str b; thread str c; thread int d; str e[int]; int f[int]; probe tick { }""")
        self.assertEqual([kind_of(typed, 0, ("global", i)) for i in (0, 1)], ["int", "str"])
        self.assertEqual([kind_of(typed, 0, ("thread", i)) for i in (0, 1)], ["str", "int"])
        self.assertEqual([kind_of(typed, 0, ("array", i, (("int", 1),))) for i in (0, 1)], ["str", "int"])

    def test_deep_ones(self):
        for deep in (40, 60):
            for text in ("(" * deep + "1" + ")" * deep, " + ".join(["1"] * (deep + 1)), "-" * deep + "1",
                         "1 ? 2 : " * deep + "3", "1 ? " * deep + "2" + " : 3" * deep, "a[" * deep + "1" + "]" * deep,
                         "len(text(" * (deep // 2) + "1" + "))" * (deep // 2), " && ".join(["1"] * (deep + 1))):
                typed = typed_script("int a[int]; probe tick { trace(" + text + "); }")
                self.assertEqual(kind_of(typed, 0, typed[4][0][3][0][1][0]), "int")


if __name__ == "__main__":
    unittest.main()
