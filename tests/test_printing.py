"""Points 1.8 and 1.9: the one form of scripts."""

import unittest

from forest import Forest

from tapline.errors import TextError
from tapline.parser import parse, parse_expr
from tapline.printing import print_action, print_expr, print_script
from tapline.tokens import tokens


class Items(unittest.TestCase):
    def check(self, text, form):
        with self.subTest(text=text):
            self.assertEqual(print_script(parse(text)), form)
            self.assertEqual(print_script(parse(form)), form)

    def test_no_items(self):
        self.check("  # nothing\n", "")
        self.assertEqual(print_script(()), "")

    def test_declarations(self):
        self.check("int   n ;", "int n;\n")
        self.check("str s\n;", "str s;\n")
        self.check("int a [ int ] ;", "int a[int];\n")
        self.check("str a[int,str ,int];", "str a[int, str, int];\n")
        self.check("thread  int n ;thread str s;", "thread int n;\nthread str s;\n")

    def test_each_item_is_a_row(self):
        self.check("int n; probe\ntick\n{\n}\nthread str s;", "int n;\nprobe tick { }\nthread str s;\n")

    def test_patterns(self):
        for text, form in (("end", "end"), ("end:*", "end"), ("end : * : *", "end"), ("end :3", "end:3"),
                           ("end:3:*", "end:3"), ("end: * :0", "end:*:0"), ("end:0:0", "end:0:0"), ("at", "at"),
                           ("name:1", "name:1"), ("insn , tick:1 ,at:*:2", "insn, tick:1, at:*:2")):
            self.check("probe " + text + "{}", "probe " + form + " { }\n")

    def test_predicates(self):
        self.check("probe tick when(n){}", "probe tick when n { }\n")
        self.check("probe tick:0:1 when(n?a:b)+c{}", "probe tick:0:1 when (n ? a : b) + c { }\n")
        self.check("probe tick when n?a:b{}", "probe tick when n ? a : b { }\n")
        self.check("probe tick when-n{}", "probe tick when -n { }\n")
        self.check("probe tick when!n{}", "probe tick when !n { }\n")

    def test_braces(self):
        self.check("probe tick{int a;}", "probe tick { int a; }\n")
        self.check("probe tick{int a;str b;a=1;stop();}", "probe tick { int a; str b; a = 1; stop(); }\n")

    def test_a_probe_is_one_row(self):
        self.check("int n;\nprobe\nend # all\n{\nint k;\nk=n;\n@t[k]=count();\n}\n",
                   "int n;\nprobe end { int k; k = n; @t[k] = count(); }\n")


class Actions(unittest.TestCase):
    def check(self, text, form):
        with self.subTest(text=text):
            action = parse("probe tick{" + text + "}")[0][4][0]
            self.assertEqual(print_action(action), form)
            self.assertEqual(parse("probe tick{" + form + "}")[0][4], (action,))

    def test_assignments(self):
        self.check("a=b;", "a = b;")
        self.check("a [b ,c]=d;", "a[b, c] = d;")
        self.check("self . a=b;", "self.a = b;")
        self.check("a=b?c:d;", "a = b ? c : d;")
        self.check("a=(-b);", "a = -b;")
        self.check("a=(b==c);", "a = b == c;")
        self.check("a=((b+c)*d);", "a = (b + c) * d;")

    def test_tables(self):
        self.check("@ t=count ( ) ;", "@t = count();")
        self.check("@t [ a,b ]=sum ( a+b ) ;", "@t[a, b] = sum(a + b);")
        self.check("@t=hist((a?b:c));", "@t = hist(a ? b : c);")
        self.check("@t=least();", "@t = least();")
        self.check("@t=most(-1);", "@t = most(-1);")

    def test_records(self):
        for word in ("trace", "say"):
            self.check(word + " ( ) ;", word + "();")
            self.check(word + " ( a,\"x\" ,(b) ) ;", word + "(a, \"x\", b);")

    def test_speculations_and_stop(self):
        for word in ("speculate", "commit", "discard"):
            self.check(word + " ( spec ( ) ) ;", word + "(spec());")
            self.check(word + " ( (a+b)*c ) ;", word + "((a + b) * c);")
        self.check("stop ( ) ;", "stop();")


class Expressions(unittest.TestCase):
    def check(self, text, form):
        with self.subTest(text=text):
            self.assertEqual(print_expr(parse_expr(text)), form)
            self.assertEqual(parse_expr(form), parse_expr(text))

    def same(self, *forms):
        for form in forms:
            self.check(form, form)

    def test_primaries(self):
        self.same("0", "12", "9223372036854775807", '""', '"a b"', "now", "cpu", "pid", "tid", "at", "name",
                  "arg0", "arg1", "arg2", "arg3", "r0", "r1", "r2", "r3", "a", "self.a", "a[b]", "a[b, c, d]",
                  "len()", "len(a)", "cat(a, b)", "sub(a, b, c)", "text(a)", "byte(a)", "spec()")
        self.check("self . a", "self.a")
        self.check("a [ (b) ,c ]", "a[b, c]")
        self.check("cat ( a ,(b) )", "cat(a, b)")
        self.check("((a))", "a")

    def test_spaces(self):
        self.check("a+b", "a + b")
        self.check("a  mod\nb", "a mod b")
        self.check("a&&b||c", "a && b || c")
        self.check("a<=b", "a <= b")
        self.check("a?b:c", "a ? b : c")
        self.check("- a", "-a")
        self.check("! a", "!a")
        self.check("a--b", "a - -b")
        self.check("a-(-b)", "a - -b")
        self.check("- - a", "--a")
        self.check("-(-a)", "--a")
        self.check("! - ! a", "!-!a")
        self.check("-(a+b)", "-(a + b)")
        self.check("!(a&&b)", "!(a && b)")
        self.check("a*(b+c)", "a * (b + c)")
        self.check("((a+b)*c-d)*e", "((a + b) * c - d) * e")
        self.check("a[(b+c)*d]", "a[(b + c) * d]")
        self.check("len((a?b:c))", "len(a ? b : c)")

    def test_each_operand_of_each_operator(self):
        """For each operator the operands whose level is too low, and those whose level is just enough."""
        forms = {0: "a ? b : c", 1: "a || b", 2: "a && b", 3: "a == b", 4: "a - b", 5: "a mod b", 6: "-a", 7: "a"}
        needs = {"||": (1, 2), "&&": (2, 3), "+": (4, 5), "-": (4, 5), "*": (5, 6), "/": (5, 6), "mod": (5, 6)}
        for sign in ("==", "!=", "<", "<=", ">", ">="):
            needs[sign] = (4, 4)
        for sign, (left, right) in needs.items():
            for level, form in forms.items():
                first = form if level >= left else "(" + form + ")"
                second = form if level >= right else "(" + form + ")"
                self.check(f"({form}){sign} d", f"{first} {sign} d")
                self.check(f"d {sign}({form})", f"d {sign} {second}")
                self.check(f"({form}){sign}({form})", f"{first} {sign} {second}")

    def test_the_operands_of_the_others(self):
        forms = {0: "a ? b : c", 1: "a || b", 2: "a && b", 3: "a < b", 4: "a + b", 5: "a * b", 6: "!a", 7: "a[b]"}
        for level, form in forms.items():
            inner = "(" + form + ")"
            self.check("-" + inner, "-" + (form if level >= 6 else inner))
            self.check("!" + inner, "!" + (form if level >= 6 else inner))
            self.check(inner + "?d:e", (form if level >= 1 else inner) + " ? d : e")
            self.check("d?" + inner + ":e", "d ? " + form + " : e")
            self.check("d?e:" + inner, "d ? e : " + form)
            self.check("x[" + inner + "]", "x[" + form + "]")
            self.check("len(" + inner + ")", "len(" + form + ")")

    def test_each_sign_of_a_level_on_the_right(self):
        for signs in (("+", "-"), ("*", "/", "mod"), ("||",), ("&&",)):
            for one in signs:
                for other in signs:
                    self.check(f"(a {one} b) {other} c", f"a {one} b {other} c")
                    self.check(f"a {one} (b {other} c)", f"a {one} (b {other} c)")

    def test_deep_ones(self):
        for form in ("-" * 60 + "a", "len(" * 60 + "a" + ")" * 60, "a[" * 60 + "a" + "]" * 60, " + ".join(["a"] * 60),
                     "a + (" * 60 + "a + b" + ")" * 60, "a ? b : " * 60 + "c", "a ? " * 60 + "b" + " : c" * 60,
                     "(" * 60 + "a ? b : c" + ") ? b : c" * 60):
            self.same(form)


class All(unittest.TestCase):
    """Scripts at random: printing and parsing are each other's inverse."""

    def test_scripts(self):
        for seed in range(300):
            script = Forest(seed).script()
            text = print_script(script)
            with self.subTest(text=text):
                self.assertEqual(parse(text), script)
                self.assertEqual(print_script(parse(text)), text)
                self.assertEqual(text.count("\n"), len(script))
                self.assertTrue(text == "" or text.endswith("\n"))

    def test_expressions(self):
        for seed in range(600):
            expr = Forest(seed).expr(6)
            text = print_expr(expr)
            with self.subTest(text=text):
                self.assertEqual(parse_expr(text), expr)
                self.assertEqual(print_expr(parse_expr(text)), text)
                self.assertNotIn("\n", text)

    def test_no_parentheses_too_many(self):
        """Without a pair of parentheses that groups, the text is that of another tree or of none."""
        for seed in range(200):
            expr = Forest(seed).expr(4)
            text = print_expr(expr)
            for left, right in groups(text):
                other = text[:left] + " " + text[left + 1:right] + " " + text[right + 1:]
                with self.subTest(text=text, other=other):
                    try:
                        self.assertNotEqual(parse_expr(other), expr)
                    except TextError:
                        pass


def groups(text):
    """The places of the pairs of parentheses that do not stand behind a function."""
    pairs, held, before = [], [], None
    for kind, word, _, column in tokens(text):
        if word == "(" and kind == "sign":
            held.append((column - 1, before in ("len", "cat", "sub", "text", "byte", "spec")))
        if word == ")" and kind == "sign":
            left, calls = held.pop()
            if not calls:
                pairs.append((left, column - 1))
        before = word if kind == "keyword" else None
    return pairs


if __name__ == "__main__":
    unittest.main()
