"""Points 1.5 and 1.6: each form of the grammar and of the table of trees."""

import unittest

from tapline.parser import parse, parse_expr


def var(name):
    return ("var", name)


A, B, C, D = var("a"), var("b"), var("c"), var("d")


def only_lists_are_missing(tree):
    if isinstance(tree, tuple):
        return all(only_lists_are_missing(part) for part in tree)
    return tree is None or type(tree) in (int, str)


class Items(unittest.TestCase):
    def check(self, text, *items):
        with self.subTest(text=text):
            self.assertEqual(parse(text), items)
            self.assertTrue(only_lists_are_missing(parse(text)))

    def test_the_example(self):
        self.assertEqual(parse("probe end:* { n = n + 1; }"), (
            ("probe", (("end", None, None),), None, (),
             (("set", ("var", "n"), ("op", "+", ("var", "n"), ("int", 1))),)),))

    def test_no_items(self):
        for text in ("", " ", "\n", "# int n;", "\n#\n"):
            self.check(text)

    def test_variables(self):
        self.check("int n;", ("var", "int", "n", ()))
        self.check("str s;", ("var", "str", "s", ()))
        self.check("int a[int];", ("var", "int", "a", ("int",)))
        self.check("str a[str, int, str];", ("var", "str", "a", ("str", "int", "str")))
        self.check("int a[int, int, int, int];", ("var", "int", "a", ("int",) * 4))

    def test_thread_variables(self):
        self.check("thread int n;", ("thread", "int", "n"))
        self.check("thread str s;", ("thread", "str", "s"))

    def test_items_in_their_order(self):
        self.check("probe tick { } int n; thread str s;probe tick{}int n;",
                   ("probe", (("tick", None, None),), None, (), ()), ("var", "int", "n", ()),
                   ("thread", "str", "s"), ("probe", (("tick", None, None),), None, (), ()), ("var", "int", "n", ()))

    def test_patterns(self):
        for text, pattern in (("end", ("end", None, None)), ("end:*", ("end", None, None)),
                              ("end:*:*", ("end", None, None)), ("end:0", ("end", 0, None)),
                              ("end:12:*", ("end", 12, None)), ("end:*:255", ("end", None, 255)),
                              ("end:1:2", ("end", 1, 2)), ("at", ("at", None, None)), ("name:3", ("name", 3, None)),
                              ("no_event:9223372036854775807", ("no_event", 9223372036854775807, None))):
            self.check("probe " + text + " { }", ("probe", (pattern,), None, (), ()))

    def test_several_patterns(self):
        self.check("probe insn:0, at:1:2, tick { }",
                   ("probe", (("insn", 0, None), ("at", 1, 2), ("tick", None, None)), None, (), ()))

    def test_predicates(self):
        self.check("probe tick when a { }", ("probe", (("tick", None, None),), A, (), ()))
        self.check("probe tick:1:2 when a ? b : c { }",
                   ("probe", (("tick", 1, 2),), ("if", A, B, C), (), ()))

    def test_locals(self):
        self.check("probe tick { int a; str b; a = b; }",
                   ("probe", (("tick", None, None),), None, (("int", "a"), ("str", "b")), (("set", A, B),)))
        self.check("probe tick { str a; }", ("probe", (("tick", None, None),), None, (("str", "a"),), ()))


class Actions(unittest.TestCase):
    def check(self, text, *actions):
        with self.subTest(text=text):
            self.assertEqual(parse("probe tick { " + text + " }"),
                             (("probe", (("tick", None, None),), None, (), actions),))

    def test_assignments(self):
        self.check("a = b;", ("set", A, B))
        self.check("a[b] = c;", ("set", ("cell", "a", (B,)), C))
        self.check("a[b, 1, \"x\"] = c;", ("set", ("cell", "a", (B, ("int", 1), ("str", "x"))), C))
        self.check("self.a = b;", ("set", ("self", "a"), B))
        self.check("a = b == c;", ("set", A, ("op", "==", B, C)))

    def test_tables(self):
        self.check("@t = count();", ("put", "t", (), "count", None))
        for function in ("count", "sum", "least", "most", "hist"):
            self.check("@t = " + function + "(a);", ("put", "t", (), function, A))
            self.check("@t = " + function + "();", ("put", "t", (), function, None))
        self.check("@ t [a, b] = sum(c ? a : b);", ("put", "t", (A, B), "sum", ("if", C, A, B)))

    def test_records(self):
        for word in ("trace", "say"):
            self.check(word + "();", (word, ()))
            self.check(word + "(a);", (word, (A,)))
            self.check(word + "(a, \"x\", now);", (word, (A, ("str", "x"), ("word", "now"))))

    def test_speculations(self):
        for word in ("speculate", "commit", "discard"):
            self.check(word + "(a + b);", (word, ("op", "+", A, B)))

    def test_stop(self):
        self.check("stop();", ("stop",))
        self.check("stop ( ) ; a = b; stop();", ("stop",), ("set", A, B), ("stop",))


class Expressions(unittest.TestCase):
    def check(self, text, tree):
        with self.subTest(text=text):
            self.assertEqual(parse_expr(text), tree)
            self.assertTrue(only_lists_are_missing(parse_expr(text)))

    def test_values(self):
        self.check("0", ("int", 0))
        self.check("9223372036854775807", ("int", 9223372036854775807))
        self.check('""', ("str", ""))
        self.check('"int ; mod"', ("str", "int ; mod"))

    def test_words(self):
        for word in ("now", "cpu", "pid", "tid", "at", "name"):
            self.check(word, ("word", word))
        for i in range(4):
            self.check(f"arg{i}", ("arg", i))
            self.check(f"r{i}", ("reg", i))

    def test_places(self):
        self.check("a", A)
        self.check("a[b]", ("cell", "a", (B,)))
        self.check("a[b, c[d]]", ("cell", "a", (B, ("cell", "c", (D,)))))
        self.check("self.a", ("self", "a"))
        self.check("self . a", ("self", "a"))

    def test_asking(self):
        for word in ("len", "cat", "sub", "text", "byte", "spec"):
            self.check(word + "()", ("ask", word, ()))
            self.check(word + "(a)", ("ask", word, (A,)))
            self.check(word + "(a, b, c, d)", ("ask", word, (A, B, C, D)))

    def test_each_operator_to_the_left(self):
        for sign in ("+", "-", "*", "/", "mod"):
            self.check(f"a {sign} b", ("op", sign, A, B))
            self.check(f"a {sign} b {sign} c", ("op", sign, ("op", sign, A, B), C))
            self.check(f"a {sign} (b {sign} c)", ("op", sign, A, ("op", sign, B, C)))
        self.check("a + b - c + d", ("op", "+", ("op", "-", ("op", "+", A, B), C), D))
        self.check("a / b mod c * d", ("op", "*", ("op", "mod", ("op", "/", A, B), C), D))
        self.check("a || b || c", ("or", ("or", A, B), C))
        self.check("a && b && c", ("and", ("and", A, B), C))

    def test_comparisons(self):
        for sign in ("==", "!=", "<", "<=", ">", ">="):
            self.check(f"a {sign} b", ("op", sign, A, B))
            self.check(f"a + b {sign} c * d", ("op", sign, ("op", "+", A, B), ("op", "*", C, D)))
            self.check(f"(a {sign} b) {sign} c", ("op", sign, ("op", sign, A, B), C))
            self.check(f"a {sign} b && c {sign} d || a",
                       ("or", ("and", ("op", sign, A, B), ("op", sign, C, D)), A))

    def test_levels(self):
        self.check("a || b && c", ("or", A, ("and", B, C)))
        self.check("a && b || c", ("or", ("and", A, B), C))
        self.check("a + b * c", ("op", "+", A, ("op", "*", B, C)))
        self.check("a * b + c", ("op", "+", ("op", "*", A, B), C))
        self.check("a - b mod c", ("op", "-", A, ("op", "mod", B, C)))
        self.check("a || b && c == d + a * b", ("or", A, ("and", B, ("op", "==", C, ("op", "+", D, ("op", "*", A, B))))))
        self.check("a * b + c == d && a || b", ("or", ("and", ("op", "==", ("op", "+", ("op", "*", A, B), C), D), A), B))

    def test_minus_and_not(self):
        self.check("-a", ("minus", A))
        self.check("!a", ("not", A))
        self.check("-5", ("minus", ("int", 5)))
        self.check("--!-a", ("minus", ("minus", ("not", ("minus", A)))))
        self.check("-a * -b", ("op", "*", ("minus", A), ("minus", B)))
        self.check("-(a * b)", ("minus", ("op", "*", A, B)))
        self.check("a - -b", ("op", "-", A, ("minus", B)))
        self.check("a--b", ("op", "-", A, ("minus", B)))
        self.check("!a == b", ("op", "==", ("not", A), B))
        self.check("!a!=!b", ("op", "!=", ("not", A), ("not", B)))
        self.check("-a[b]", ("minus", ("cell", "a", (B,))))

    def test_conditions(self):
        self.check("a ? b : c", ("if", A, B, C))
        self.check("a ? b : c ? d : a", ("if", A, B, ("if", C, D, A)))
        self.check("a ? b ? c : d : a", ("if", A, ("if", B, C, D), A))
        self.check("(a ? b : c) ? d : a", ("if", ("if", A, B, C), D, A))
        self.check("a || b ? c || d : a || b", ("if", ("or", A, B), ("or", C, D), ("or", A, B)))
        self.check("a ? b : c ? d : a ? b : c", ("if", A, B, ("if", C, D, ("if", A, B, C))))

    def test_parentheses_leave_no_trace(self):
        self.check("(a)", A)
        self.check("(((a)))", A)
        self.check("((a) + (b))", ("op", "+", A, B))
        self.check("a[(b)]", ("cell", "a", (B,)))
        self.check("(a + b) * c", ("op", "*", ("op", "+", A, B), C))

    def test_a_text_is_no_sign_and_no_keyword(self):
        self.check('"-" + "mod"', ("op", "+", ("str", "-"), ("str", "mod")))
        self.check('a mod "mod"', ("op", "mod", A, ("str", "mod")))

    def test_over_several_rows(self):
        self.check("a # first\n + # second\n b", ("op", "+", A, B))


class Deep(unittest.TestCase):
    """Expressions that are nested 40 deep, and somewhat more."""

    def test_parentheses(self):
        for deep in (40, 60):
            self.assertEqual(parse_expr("(" * deep + "a" + ")" * deep), A)

    def test_rows_of_operators(self):
        for sign in ("+", "-", "*", "/", "mod", "&&", "||"):
            for deep in (40, 60):
                tree = A
                for _ in range(deep):
                    tree = {"&&": ("and", tree, A), "||": ("or", tree, A)}.get(sign, ("op", sign, tree, A))
                self.assertEqual(parse_expr(f" {sign} ".join(["a"] * (deep + 1))), tree)

    def test_operators_to_the_right(self):
        for deep in (40, 60):
            tree = A
            for _ in range(deep):
                tree = ("op", "<", A, tree)
            self.assertEqual(parse_expr("a < (" * deep + "a" + ")" * deep), tree)

    def test_minus_and_not(self):
        for deep in (40, 60):
            tree = A
            for _ in range(deep):
                tree = ("minus", ("not", tree))
            self.assertEqual(parse_expr("-!" * deep + "a"), tree)

    def test_conditions(self):
        for deep in (40, 60):
            last, middle, first = A, A, A
            for _ in range(deep):
                last, middle, first = ("if", B, C, last), ("if", B, middle, C), ("if", first, B, C)
            self.assertEqual(parse_expr("b ? c : " * deep + "a"), last)
            self.assertEqual(parse_expr("b ? " * deep + "a" + " : c" * deep), middle)
            self.assertEqual(parse_expr("(" * deep + "a" + " ? b : c)" * deep), first)

    def test_keys_and_calls(self):
        for deep in (40, 60):
            keys, calls = A, A
            for _ in range(deep):
                keys, calls = ("cell", "b", (C, keys)), ("ask", "cat", (calls, B))
            self.assertEqual(parse_expr("b[c, " * deep + "a" + "]" * deep), keys)
            self.assertEqual(parse_expr("cat(" * deep + "a" + ", b)" * deep), calls)


if __name__ == "__main__":
    unittest.main()
