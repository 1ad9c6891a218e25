"""Point 1.7: the place of the first token that the grammar does not allow."""

import random
import unittest

from forest import Forest
from grammar import first_wrong

from tapline.errors import BadCharacter, BadNumber, BadQuote, Unexpected
from tapline.parser import parse, parse_expr
from tapline.printing import print_script
from tapline.tokens import tokens


class Wrong(unittest.TestCase):
    def raises(self, text, row, column, read=parse, error=Unexpected):
        with self.subTest(text=text):
            with self.assertRaises(error) as caught:
                read(text)
            self.assertIs(type(caught.exception), error)
            self.assertEqual((caught.exception.row, caught.exception.column), (row, column))

    def marked(self, text, read=parse):
        """The wrong token is the one behind the sign $, which is taken out."""
        before, mark, after = text.partition("$")
        self.assertEqual(mark, "$")
        row = before.count("\n") + 1
        self.raises(before + after, row, len(before) - before.rfind("\n"), read)

    def test_items(self):
        for text in ("$n;", "$;", "$}", "$12", '$"int"', "$when", "int n; $;", "int n; $n = 1;", "probe tick { } $;",
                     "int$", "int $int;", "int $12;", "int $;", "int n$", "int n $= 1;", "int n $n;", "int n $, m;",
                     "int n[$];", "int n[$n];", "int n[int$", "int n[int $int];", "int n[int, $];", "int n[int,$",
                     "int n[int] $[int];", "int n[int]$", "int n[$1];", "thread $n;", "thread$", "thread int$",
                     "thread int $;", "thread int n$", "thread int n $[int];", "thread $thread int n;",
                     "thread $probe tick { }", "int n;\n\nthread int\n  $\"n\";", "int n; # x\n$n"):
            self.marked(text)

    def test_probes(self):
        for text in ("probe$", "probe ${ }", "probe $12 { }", "probe $int { }", "probe $self { }", "probe $now { }",
                     "probe tick$", "probe tick $tick { }", "probe tick, ${ }", "probe tick: ${ }", "probe tick:$n { }",
                     "probe tick:1 $2 { }", "probe tick:1:${ }", "probe tick:1:2$:3 { }", "probe tick:1:2 $3 { }",
                     "probe tick:$- 1 { }", "probe tick:*:$\"1\" { }", "probe tick when ${ }", "probe tick when$",
                     "probe tick when a $when b { }", "probe tick when a $b { }", "probe tick when a$", "probe tick {$",
                     "probe tick { int a;$", "probe tick { int $; }", "probe tick { int a $= 1; }",
                     "probe tick { int a$[int]; }", "probe tick { a = 1; $int b; }", "probe tick { stop(); $str b; }",
                     "probe tick { $thread int a; }", "probe tick { $probe tick { } }", "probe tick { ${ } }",
                     "probe tick { $; }", "probe tick { } $}", "probe tick $; { }", "probe tick { int a $}",
                     "probe tick:$:1 { }", "probe tick:*:$:1 { }", "probe tick when $when { }"):
            self.marked(text)

    def test_actions(self):
        for text in ("a$", "a $;", "a = $;", "a = b$", "a = b $}", "a $== b;", "a = b $= c;", "a[$] = b;", "a[b$",
                     "a[b $= c;", "a[b,$] = c;", "a[b] $;", "a[b]$[c] = d;", "a[b] $", "self $a = 1;",
                     "self.$self = 1;", "self.a$[b] = 1;", "self.$12 = 1;", "self.a $;", "$12 = a;", '$"a" = a;',
                     "$now = a;", "$(a) = b;", "$-a = b;", "$len(a);", "@$", "@ $= count();", "@$self.t = count();",
                     "@t $count();", "@t[$] = count();", "@t[a $= count();", "@t[a]$[b] = count();", "@t = $a;",
                     "@t = $len(a);", "@t = count$;", "@t = count $a;", "@t = count($", "@t = count(a$, b);",
                     "@t = count(a $;", "@t = count()$", "@t = count() $}", "@t = count() $+ 1;", "trace$;", "trace $a;",
                     "trace($;", "trace(a $b);", "trace(a,$);", "trace(a$;", "trace(a) $say(b);", "say($,a);", "say()$",
                     "speculate($);", "speculate(a$, b);", "commit$;", "commit($)", "discard(a)$", "discard(a $;",
                     "stop$;", "stop($a);", "stop()$", "stop() $}", "stop($", "$count();", "$spec();", "$mod", "$]"):
            self.marked("probe tick {\n  stop();\n  " + text)

    def test_expressions(self):
        for text in ("$", "a $b", "a +$", "a + $+ b", "a $! b", "a$!", "!$", "-$", "- $* a", "a * $/ b", "a mod$",
                     "$mod a", "a mod $mod b", "($)", "(a$", "(a $b)", "a$)", "(a$, b)", "a$, b",
                     "a ?$", "a ? $: b", "a ? b$", "a ? b :$", "a ? b $; c", "a $: b", "a ? b : c $: d",
                     "a ? b : c$)", "a < b $< c", "a == b $== c", "a < b $>= c", "a && b < c $< d", "a || b == c $!= d",
                     "a + b < c * d $> a", "a < b && c < d $< a", "(a < b $< c)", "a[$]", "a[b$", "a[b, $]", "a[b $c]",
                     "a[b$;", "a[b]$[c]", "a$.b", "self$", "self $a", "self.$", "self.$now", "self.a$.b", "self.a$[b]",
                     "len$", "len $a", "len($", "len(a$", "len(a,$)", "len($,)", "len(a $b)",
                     "len()$()", "now$()", "now $now", "arg0$[1]", "r0 $r1", "1 $2", "1 $a", '"a" $"b"',
                     '"a"$[1]', "$int", "$count(a)", "$trace(a)", "a $= b", "a && $&& b", "a ||$", "$@a", "a$;", "${",
                     "a $}", "a\n+\n $)\n b", "a ? b ? c : d$"):
            self.marked(text, parse_expr)

    def test_the_end_of_the_text(self):
        self.raises("int", 1, 4)
        self.raises("int n ", 1, 7)
        self.raises("int n\n", 2, 1)
        self.raises("int n # x", 1, 10)
        self.raises("", 1, 1, parse_expr)
        self.raises("\n\n  ", 3, 3, parse_expr)

    def test_a_text_in_the_place_of_a_sign_or_keyword(self):
        self.raises('int n ";"', 1, 7)
        self.raises('probe tick "{" }', 1, 12)
        self.raises('probe tick { "stop"(); }', 1, 14)
        self.raises('a "+" b', 1, 3, parse_expr)

    def test_the_errors_of_tokens_come_first(self):
        self.raises("int ; \n  01", 2, 3, parse, BadNumber)
        self.raises("int ;\n$", 2, 1, parse, BadCharacter)
        self.raises('} } } "abc', 1, 7, parse, BadQuote)
        self.raises("a b c & d", 1, 7, parse_expr, BadCharacter)
        self.raises('a b "' + "x" * 33 + '"', 1, 5, parse_expr, BadQuote)
        self.raises("int ; # 01 $", 1, 5)


class Compared(unittest.TestCase):
    """The grammar of the document, read by a recogniser of its own, finds the same tokens wrong."""

    def place(self, read, text):
        try:
            read(text)
        except Unexpected as error:
            return (error.row, error.column)
        return None

    def expected(self, start, text):
        row = tokens(text)
        wrong = first_wrong(row, start)
        return None if wrong is None else row[wrong][2:]

    def test_changed_scripts(self):
        words = [token[1] for token in tokens(SAMPLE)[:-1] if token[0] != "text"] + ['"t"', "n", "12", "?", ":", "mod"]
        for seed in range(150):
            chance = random.Random(seed)
            row = print_script(Forest(seed).script()[:2] or (("thread", "int", "n"),)).split()
            for _ in range(6):
                at = chance.randrange(len(row) + 1)
                changed = list(row)
                changed[at:at + chance.randrange(2)] = [chance.choice(words)][:chance.randrange(2)]
                text = " ".join(changed)
                with self.subTest(text=text):
                    try:
                        expected = self.expected("script", text)
                    except (BadCharacter, BadNumber, BadQuote):
                        continue
                    self.assertEqual(self.place(parse, text), expected)

    def test_random_rows_of_words(self):
        words = ["a", "1", '"t"', "self", ".", "(", ")", "[", "]", ",", "?", ":", "+", "-", "!", "<", "==", "&&", "||",
                 "mod", "len", "spec", "now", "arg1", "r3", "*", "=", ";", "int"]
        chance = random.Random(5)
        for _ in range(1500):
            text = " ".join(chance.choice(words) for _ in range(chance.randint(0, 7)))
            with self.subTest(text=text):
                self.assertEqual(self.place(parse_expr, text), self.expected("only", text))

    def test_each_token_at_each_place(self):
        row = tokens(SAMPLE)[:-1]
        shown = ['"' + token[1] + '"' if token[0] == "text" else token[1] for token in row]
        others = ["n", "7", '"t"', "int", "probe", "count", "len", "now", "self", "mod", "stop", "trace", "commit",
                  "thread", "when", "at"] + sorted(set(shown) - {"{"}) + ["{"]
        self.assertIsNone(first_wrong(tokens(SAMPLE), "script"))
        chance = random.Random(11)
        for at in range(len(shown) + 1):
            for other in chance.sample(others, 6):
                for behind in (at, at + 1):
                    text = " ".join(shown[:at] + [other] + shown[behind:at + 12])
                    with self.subTest(text=text):
                        self.assertEqual(self.place(parse, text), self.expected("script", text))


SAMPLE = """str s[int, str]; thread int k;
probe insn:*:5, at:1 when !a || b ? c[1] < 2 : self.k { int x; str y; x = -now * (arg0 + r1) mod 3;
 s[x, "u"] = cat(y, sub("v", 1, len(y))); self.k = spec(); @t[x, y] = sum(x / 2 - 1); @u = count();
 trace(x, name); say(); speculate(x); commit(x == 1 && x != 2); discard(x); stop(); }"""


if __name__ == "__main__":
    unittest.main()
