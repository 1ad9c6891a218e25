"""Point 2.7: the errors of names and kinds, their words, and which of them comes first."""

import unittest

from tapline.check import check_script, typed_script
from tapline.errors import DoubleName, UnknownName, WrongCount, WrongKind
from tapline.parser import parse

DECLARED = """int gi; str gs; thread int ti; thread str ts; int ai[int]; str as[str, int]; int a3[int, str, int];
    probe tick { @ti = sum(1); @tk["k", 1] = count(); }
"""
VALUES = {"int": ("1", "gi", "self.ti", "ai[1]", "now", "r0", "-1", "li"),
          "str": ('"x"', "gs", "self.ts", 'as["x", 1]', "name", "text(1)", "ls")}
COMPARES = ("==", "!=", "<", "<=", ">", ">=")


class Errors(unittest.TestCase):
    def raises(self, text, error, word):
        with self.subTest(text=text):
            with self.assertRaises(error) as caught:
                typed_script(text)
            self.assertIs(type(caught.exception), error)
            self.assertEqual(caught.exception.word, word)
            tree = parse(text)
            with self.assertRaises(error):
                check_script(tree)
            self.assertEqual(tree, parse(text))

    def action(self, text, error, word):
        """An action in a clause with the locals li and ls."""
        self.raises(DECLARED + "probe end { int li; str ls; " + text + " }", error, word)

    def expr(self, text, error, word):
        """An expression as a value of a record, in a predicate, as a key, as a value and inside of others."""
        self.action(f"trace(1, {text});", error, word)
        self.action(f"say({text}, 1);", error, word)
        self.raises(DECLARED + f"probe end when {text} {{ int li; str ls; }}", error, word)
        self.action(f"li = {text};", error, word)
        self.action(f"ai[{text}] = 1;", error, word)
        self.action(f"@new[1, {text}] = count();", error, word)
        self.action(f"@new = most({text});", error, word)
        self.action(f"commit({text});", error, word)
        for around in ("-({})", "!({})", "({}) + 1", "1 * ({})", "({}) && 1", "0 || ({})", "({}) ? 1 : 2",
                       "1 ? ({}) : 2", "1 ? 2 : ({})", "({}) == 1", '"x" < ({})', "len({})", 'cat("x", {})',
                       'sub("x", {}, 2)', "text({})", "ai[{}]", 'as["x", {}]', "byte(1 + ({}))"):
            self.action(f"trace({around.format(text)});", error, word)


class Declarations(Errors):
    def test_double_names(self):
        for text in ("int n; int n;", "int n; str n;", "int n; int n[int];", "int n[int]; int n;", "str n[int]; int n[str];",
                     "thread int n; thread str n;", "int m; int n; int o; probe tick { } int n;",
                     "thread int n; int n; thread int n;"):
            self.raises(text, DoubleName, "n")

    def test_names_that_may_be_the_same(self):
        for text in ("int n; thread int n;", "thread int n; int n[int];", "int n; int N;",
                     "int n; thread int n; probe tick { int n; @n = count(); }", "probe tick { int n; } probe end { str n; }"):
            typed_script(text)

    def test_an_array_has_at_most_three_keys(self):
        self.raises("int n[int, int, int, int];", WrongCount, "n")
        self.raises("int m; str n[str, int, str, int, str];", WrongCount, "n")
        typed_script("int n[int, int, int];")

    def test_one_after_the_other(self):
        self.raises("int a; int a; thread int b; thread int b;", DoubleName, "a")
        self.raises("thread int b; thread int b; int a; int a;", DoubleName, "b")
        self.raises("int a; thread int b; thread int b; int a;", DoubleName, "b")
        self.raises("int c[int, int, int, int]; int a; int a;", WrongCount, "c")
        self.raises("int a; int a; int c[int, int, int, int];", DoubleName, "a")
        self.raises("int a; int a[int, int, int, int];", DoubleName, "a")

    def test_declarations_come_before_probes(self):
        for probe in ("probe nothing { }", "probe begin:1 { }", "probe tick { int k; int k; }", "probe tick when x { }",
                      "probe tick { x = 1; }"):
            self.raises(probe + " int n; int n;", DoubleName, "n")
            self.raises(probe + " int n[int, int, int, int];", WrongCount, "n")


class Patterns(Errors):
    def test_unknown_kinds(self):
        for word in ("nothing", "Insn", "ins", "insns", "at", "name", "begins", "tick_", "probe1"):
            self.raises(f"probe {word} {{ }}", UnknownName, word)
            self.raises(f"probe {word}:1:2 {{ }}", UnknownName, word)
            self.raises(f"probe tick, begin, {word}, off {{ }}", UnknownName, word)

    def test_begin_and_close_have_no_number_and_no_at(self):
        for word in ("begin", "close"):
            for rest in (":0", ":1", ":*:0", ":3:4"):
                self.raises(f"probe {word}{rest} {{ }}", WrongCount, word)
                self.raises(f"probe tick:1, {word}{rest} {{ }}", WrongCount, word)

    def test_in_their_order(self):
        self.raises("probe begin:1, nothing { }", WrongCount, "begin")
        self.raises("probe nothing, begin:1 { }", UnknownName, "nothing")
        self.raises("probe close:1, begin:1 { }", WrongCount, "close")
        self.raises("probe one, other { }", UnknownName, "one")

    def test_patterns_come_before_the_rest_of_the_clause(self):
        for rest in ("{ int k; int k; }", "when x { }", "{ x = 1; }"):
            self.raises("probe nothing " + rest, UnknownName, "nothing")
            self.raises("probe close:1 " + rest, WrongCount, "close")

    def test_clauses_in_their_order(self):
        self.raises("probe tick { x = 1; } probe nothing { }", UnknownName, "x")
        self.raises("probe tick { int k; int k; } probe nothing { }", DoubleName, "k")
        self.raises('probe tick when "a" { } probe nothing { }', WrongKind, "when")
        self.raises("probe tick { } probe nothing { } probe other { x = 1; }", UnknownName, "nothing")


class Locals(Errors):
    def test_double_names(self):
        self.raises("probe tick { int k; int k; }", DoubleName, "k")
        self.raises("probe tick { int k; str m; str k; int m; }", DoubleName, "k")
        self.raises("int k; probe tick { int m; str k; int k; }", DoubleName, "k")

    def test_they_come_before_the_predicate_and_the_actions(self):
        self.raises("probe tick when x { int k; int k; }", DoubleName, "k")
        self.raises('probe tick when "a" { int k; int k; }', DoubleName, "k")
        self.raises("probe tick { int k; int k; x = 1; }", DoubleName, "k")

    def test_the_predicate_comes_before_the_actions(self):
        self.raises("probe tick when x { y = 1; }", UnknownName, "x")
        self.raises('probe tick when "a" { y = 1; }', WrongKind, "when")
        self.raises('probe tick when y { x = 1; } probe tick when "a" { }', UnknownName, "y")

    def test_actions_in_their_order(self):
        self.action("x = 1; y = 1;", UnknownName, "x")
        self.action("li = ls; y = 1;", WrongKind, "li")
        self.action("trace(len()); y = 1;", WrongCount, "len")
        self.action("li = 1; stop(); y = 1;", UnknownName, "y")


class Unknown(Errors):
    def test_names_in_expressions(self):
        for text, word in (("x", "x"), ("x[1]", "x"), ("self.x", "x"), ("ti", "ti"), ("self.gi", "gi"), ("ai", "ai"),
                           ("self.ai", "ai"), ("gi[1]", "gi"), ("ti[1]", "ti"), ("ls[1]", "ls"), ("self.li", "li"),
                           ("GI", "GI"), ("tk", "tk"), ('tk["k", 1]', "tk"), ("self.tk", "tk"), ("tick", "tick")):
            self.expr(text, UnknownName, word)

    def test_names_of_places(self):
        for text, word in (("x", "x"), ("x[1]", "x"), ("self.x", "x"), ("ti", "ti"), ("self.gi", "gi"), ("ai", "ai"),
                           ("gi[1]", "gi"), ("li[1]", "li"), ("tk", "tk")):
            self.action(f"{text} = 1;", UnknownName, word)
            self.action(f'{text} = "a";', UnknownName, word)

    def test_a_local_of_another_clause(self):
        self.raises("probe tick { int k; } probe end { k = 1; }", UnknownName, "k")
        self.raises("probe tick { int k; } probe end when k { }", UnknownName, "k")


class Counts(Errors):
    def test_keys_of_arrays(self):
        for text, word in (("ai[1, 2]", "ai"), ('as["x"]', "as"), ('as["x", 1, 2]', "as"), ("as[1, 2, 3, 4]", "as"),
                           ("a3[1]", "a3"), ('a3[1, "x"]', "a3"), ('a3[1, "x", 2, 3]', "a3")):
            self.expr(text, WrongCount, word)
            self.action(f"{text} = 1;", WrongCount, word)

    def test_arguments_of_functions(self):
        for function, count in (("len", 1), ("cat", 2), ("sub", 3), ("text", 1), ("byte", 1), ("spec", 0)):
            for many in range(6):
                if many != count:
                    self.expr(function + "(" + ", ".join(["1"] * many) + ")", WrongCount, function)
                    self.expr(function + "(" + ", ".join(['"x"'] * many) + ")", WrongCount, function)

    def test_values_of_tables(self):
        self.action("@new = count(1);", WrongCount, "count")
        self.action('@new[1] = count("x");', WrongCount, "count")
        for function in ("sum", "least", "most", "hist"):
            self.action(f"@new = {function}();", WrongCount, function)

    def test_keys_of_tables(self):
        for text, word in (("@tk = count();", "tk"), ('@tk["k"] = count();', "tk"), ('@tk["k", 1, 2] = count();', "tk"),
                           ("@ti[1] = sum(1);", "ti"), ("@new[1, 2, 3, 4] = count();", "new"),
                           ("@new = count(); @new[1] = count();", "new"), ('@tk["k", 1, 2, 3] = count();', "tk"),
                           ("@new[1, 2, 3] = count(); @new[1, 2, 3, 4] = count();", "new")):
            self.action(text, WrongCount, word)

    def test_a_table_of_the_clause_before(self):
        self.raises("probe tick { @t[1] = count(); } probe tick { @t = count(); }", WrongCount, "t")
        self.raises("probe tick { @t = count(); } probe tick { @t[1] = count(); }", WrongCount, "t")

    def test_values_of_records(self):
        for word in ("trace", "say"):
            typed_script("probe tick { " + word + "(" + ", ".join(["1"] * 16) + "); }")
            for many in (17, 18, 40):
                self.action(word + "(" + ", ".join(["1"] * many) + ");", WrongCount, word)
                self.action(word + "(" + ", ".join(["ls"] * many) + ");", WrongCount, word)


class Kinds(Errors):
    def test_operators_on_numbers(self):
        for text in VALUES["str"]:
            for sign in ("+", "-", "*", "/", "mod", "&&", "||"):
                self.expr(f"({text} {sign} 1)", WrongKind, sign)
                self.expr(f"(1 {sign} {text})", WrongKind, sign)
                self.expr(f"({text} {sign} {text})", WrongKind, sign)
            self.expr(f"-{text}", WrongKind, "-")
            self.expr(f"!{text}", WrongKind, "!")

    def test_comparisons(self):
        for sign in COMPARES:
            for number in VALUES["int"]:
                for text in VALUES["str"]:
                    self.action(f"trace({number} {sign} {text});", WrongKind, sign)
                    self.action(f"trace({text} {sign} {number});", WrongKind, sign)
            typed_script(f'probe tick when "a" {sign} name {{ trace(1 {sign} now); }}')

    def test_conditions(self):
        for text in ('("x" ? 1 : 2)', '("x" ? "y" : "z")', '(1 ? 1 : "x")', '(1 ? "x" : 1)', '("x" ? 1 : "x")',
                     '(1 ? 1 : 2 ? 3 : name)', '(1 ? ls : li)'):
            self.expr(text, WrongKind, "?")

    def test_functions(self):
        for text in ("len(1)", 'cat(1, "x")', 'cat("x", 1)', "cat(1, 2)", "sub(1, 2, 3)", 'sub("x", "y", 3)',
                     'sub("x", 1, "y")', 'sub(1, "x", "y")', 'text("x")', 'byte("x")', "len(li)", "byte(ls)"):
            self.expr(text, WrongKind, text[:text.index("(")])

    def test_keys_of_arrays(self):
        for text, word in (('ai["x"]', "ai"), ("ai[name]", "ai"), ("as[1, 2]", "as"), ('as["x", "y"]', "as"),
                           ('as[1, "x"]', "as"), ("a3[1, 2, 3]", "a3"), ('a3["x", "x", 1]', "a3"),
                           ('a3[1, "x", "x"]', "a3")):
            self.expr(text, WrongKind, word)
            self.action(f"{text} = 1;", WrongKind, word)

    def test_values_of_assignments(self):
        for place, word in (("gi", "gi"), ("self.ti", "ti"), ("ai[1]", "ai"), ('a3[1, "x", 1]', "a3"), ("li", "li")):
            for text in VALUES["str"]:
                self.action(f"{place} = {text};", WrongKind, word)
        for place, word in (("gs", "gs"), ("self.ts", "ts"), ('as["x", 1]', "as"), ("ls", "ls")):
            for text in VALUES["int"]:
                self.action(f"{place} = {text};", WrongKind, word)

    def test_predicates(self):
        for text in VALUES["str"]:
            self.raises(DECLARED + f"probe tick when {text} {{ int li; str ls; }}", WrongKind, "when")
        self.raises('probe tick when 1 ? "a" : "b" { }', WrongKind, "when")
        self.raises("int k; probe tick when k { str k; }", WrongKind, "when")

    def test_speculations(self):
        for word in ("speculate", "commit", "discard"):
            for text in VALUES["str"]:
                self.action(f"{word}({text});", WrongKind, word)

    def test_values_of_tables(self):
        for function in ("sum", "least", "most", "hist"):
            for text in VALUES["str"]:
                self.action(f"@new = {function}({text});", WrongKind, function)

    def test_another_function_of_a_table(self):
        functions = {"count": "", "sum": "1", "least": "2", "most": "3", "hist": "4"}
        for one, first in functions.items():
            for other, second in functions.items():
                if one != other:
                    self.action(f"@new[1] = {one}({first}); @new[2] = {other}({second});", WrongKind, "new")

    def test_other_kinds_of_keys_of_a_table(self):
        for text, word in (("@tk[1, 1] = count();", "tk"), ('@tk["k", "k"] = count();', "tk"),
                           ("@new[ls] = count(); @new[li] = count();", "new"),
                           ('@new[1, 2, 3] = sum(1); @new[1, 2, "x"] = sum(1);', "new")):
            self.action(text, WrongKind, word)


class Order(Errors):
    """Two errors that stand next to each other in the order of the point."""

    def test_a_place_before_its_expression(self):
        self.action("x = y;", UnknownName, "x")
        self.action("x[1] = y;", UnknownName, "x")
        self.action("self.x = y;", UnknownName, "x")
        self.action("ai[1, 2] = y;", WrongCount, "ai")
        self.action('ai["x"] = y;', WrongKind, "ai")
        self.action("ai[x] = y;", UnknownName, "x")
        self.action("gi = y;", UnknownName, "y")
        self.action("gi = -ls;", WrongKind, "-")

    def test_an_array_before_its_keys(self):
        self.action("trace(x[y]);", UnknownName, "x")
        self.action("x[y] = 1;", UnknownName, "x")
        self.action("trace(ai[y, 1]);", WrongCount, "ai")
        self.action("ai[y, 1] = 1;", WrongCount, "ai")
        self.action('as["x", y, 1] = 1;', WrongCount, "as")
        self.action("trace(as[1, y]);", UnknownName, "y")
        self.action("as[1, y] = 1;", UnknownName, "y")
        self.action("trace(as[-ls, y]);", WrongKind, "-")
        self.action("trace(as[x, y]);", UnknownName, "x")

    def test_the_parts_of_an_expression_before_its_count(self):
        self.action("trace(len(x, 1));", UnknownName, "x")
        self.action('trace(cat(1, 2, -"x"));', WrongKind, "-")
        self.action("trace(spec(x));", UnknownName, "x")
        self.action("trace(" + "1, " * 17 + "x);", UnknownName, "x")
        self.action("say(x, " + "1, " * 17 + "1);", UnknownName, "x")

    def test_the_count_of_an_expression_before_its_kinds(self):
        self.action("trace(len(1, 2));", WrongCount, "len")
        self.action('trace(sub(1, "x"));', WrongCount, "sub")

    def test_the_parts_of_an_expression_before_its_kinds(self):
        for text, word in (("ls + x", "x"), ('"a" == 1 + x', "x"), ("ls && x", "x"), ("ls || x", "x"), ("ls ? 1 : x", "x"),
                           ("-(ls + x)", "x"), ("text(cat(ls, x))", "x"), ('cat(1, x)', "x"), ('sub(1, "a", x)', "x"),
                           ("(1 ? 2 : ls) + x", "?"), ("1 ? ls + 1 : x", "+")):
            self.action(f"trace({text});", WrongKind if word in "?+" else UnknownName, word)

    def test_the_parts_from_left_to_right(self):
        for text in ("x + y", "x == y", "x && y", "x || y", "x ? y : z", "cat(x, y)", "sub(x, y, z)", "as[x, y]",
                     "x[y]", "-x + y", "1 ? x : y", "sub(1, x, y)"):
            self.action(f"trace({text});", UnknownName, "x")
        self.action("trace(x, y);", UnknownName, "x")
        self.action("say(1, x, y);", UnknownName, "x")
        self.action("trace(-ls, y);", WrongKind, "-")

    def test_the_value_of_an_action_before_its_kind(self):
        self.action("commit(cat(ls, x));", UnknownName, "x")
        self.action("gs = 1 + x;", UnknownName, "x")
        self.raises("probe tick when cat(name, x) { }", UnknownName, "x")

    def test_the_number_of_keys_of_a_table_before_its_keys(self):
        self.action("@tk[x] = count();", WrongCount, "tk")
        self.action("@new[x, 1, 2, 3] = count();", WrongCount, "new")

    def test_the_keys_of_a_table_before_the_count_of_its_function(self):
        self.action("@tk[1, x] = count(1);", UnknownName, "x")
        self.action("@new[x] = sum();", UnknownName, "x")
        self.action("@tk[-ls, x] = count();", WrongKind, "-")

    def test_the_count_of_the_function_before_the_value(self):
        self.action("@new = count(x);", WrongCount, "count")
        self.action("@new = count(-ls);", WrongCount, "count")

    def test_the_count_of_the_function_before_the_kinds(self):
        self.action("@tk[1, 1] = count(1);", WrongCount, "count")
        self.action("@tk[1, 1] = sum();", WrongCount, "sum")
        self.action("@ti = count(1);", WrongCount, "count")
        self.action("@ti = least();", WrongCount, "least")

    def test_the_value_before_the_kinds(self):
        self.action('@tk[1, 1] = sum(x);', UnknownName, "x")
        self.action("@ti = least(x);", UnknownName, "x")
        self.action("@ti = least(-ls);", WrongKind, "-")
        self.action("@ti = sum(cat(ls, x));", UnknownName, "x")

    def test_the_kinds_of_the_keys_and_the_function_before_that_of_the_value(self):
        self.action('@tk["k", 1] = sum(ls);', WrongKind, "tk")
        self.action("@tk[1, 1] = sum(ls);", WrongKind, "tk")
        self.action("@ti = least(ls);", WrongKind, "ti")
        self.action("@ti = sum(ls);", WrongKind, "sum")

    def test_a_table_that_was_refused_is_not_the_first(self):
        self.raises("probe tick { @t[1] = sum(name); } probe tick { @t = count(); }", WrongKind, "sum")


if __name__ == "__main__":
    unittest.main()
