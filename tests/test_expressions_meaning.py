"""Point 5.7, row by row; each expression is evaluated by the meaning and by its code (6.2, 6.3)."""

import unittest

from clauses import EVENT, MEMORY, TICK, VIEW, all_ways, deeds_of, script_of, typed_value, value_of, with_expr
from stores import Store

LEAST, GREATEST = -2 ** 63, 2 ** 63 - 1


def number(n):
    return ("int", n)


def text(s):
    return ("str", s)


class Expressions(unittest.TestCase):
    def gives(self, expr, value, **given):
        """expr is a text of the language or a typed expression."""
        found = value_of(expr, **given) if isinstance(expr, str) else typed_value(expr, **given)
        self.assertEqual(repr(found), repr(value), expr)


class Plain(Expressions):
    def test_literals(self):
        for n in (0, 1, -1, LEAST, GREATEST):
            self.gives(number(n), number(n))
        for s in ("", "a", "it's # 1 ~", "x" * 32):
            self.gives(text(s), text(s))

    def test_words_of_the_event(self):
        for word, value in (("now", number(77)), ("cpu", number(2)), ("pid", number(1)), ("tid", number(3)), ("at", number(40)),
                            ("name", text("entry"))):
            self.gives(word, value)
        for word, value in (("now", number(8)), ("cpu", number(1)), ("pid", number(-1)), ("tid", number(-1)),
                            ("at", number(-1)), ("name", text("tick"))):
            self.gives(word, value, view=TICK)

    def test_args(self):
        for i, n in enumerate((5, 600, 70, 0)):
            self.gives(f"arg{i}", number(n))
            self.gives(f"arg{i}", number(0), view=TICK)
        view = (("return", 0, 1, 1, 1, 1, (6, 9)),) + VIEW[1:]
        script = with_expr(("arg", 1))
        self.assertEqual(all_ways(script, view)[0], (("record", None, "trace", (number(9),)),))
        self.assertEqual(all_ways(with_expr(("arg", 2)), view)[0], (("record", None, "trace", (number(0),)),))

    def test_registers(self):
        for i, n in enumerate((11, 22, 33, 65535)):
            self.gives(f"r{i}", number(n))

    def test_variables_as_they_are_then(self):
        def prepare(store):
            store.globals[:] = [number(4), number(-9), text("glob")]
            store.threads = {(3, 0): number(8), (3, 1): text("th"), (1, 0): number(1), (-1, 0): number(15), (0, 1): text("no")}
            store.arrays = {(0, (number(5),)): number(50), (0, (number(-5),)): number(51), (1, (text("k"), number(5))): text("el")}

        for expr, value in (("g", number(4)), ("h", number(-9)), ("s", text("glob")), ("self.t", number(8)),
                            ("self.u", text("th")), ("a[5]", number(50)), ("a[-5]", number(51)), ("a[6]", number(0)),
                            ("b[\"k\", 5]", text("el")), ("b[\"k\", 4]", text("")), ("b[\"j\", 5]", text("")),
                            ("a[g + 1]", number(50))):
            self.gives(expr, value, prepare=prepare)
        self.gives("self.t", number(15), prepare=prepare, view=TICK)
        self.gives("self.u", text(""), prepare=prepare, view=TICK)

    def test_locals(self):
        deeds = deeds_of("int i; str w; int j; trace(i, w, j); i = 4; w = \"x\"; j = i + 1; trace(i, w, j); i = j * i; trace(i);")
        self.assertEqual([deed[3] for deed in deeds], [
            (number(0), text(""), number(0)), (number(4), text("x"), number(5)), (number(20),)])


class Operators(Expressions):
    def test_minus_and_not(self):
        for n, less in ((0, 0), (1, -1), (-1, 1), (GREATEST, -GREATEST), (LEAST, LEAST), (LEAST + 1, GREATEST)):
            self.gives(("minus", number(n)), number(less))
        for n, truth in ((0, 1), (1, 0), (-1, 0), (7, 0), (LEAST, 0), (GREATEST, 0)):
            self.gives(("not", number(n)), number(truth))

    def test_sums_and_products_are_wrapped(self):
        for sign, a, b, n in (("+", 2, 3, 5), ("+", GREATEST, 1, LEAST), ("+", LEAST, -1, GREATEST), ("-", 2, 3, -1),
                              ("-", LEAST, 1, GREATEST), ("-", GREATEST, -1, LEAST), ("-", 0, LEAST, LEAST), ("*", -4, 6, -24),
                              ("*", 2 ** 32, 2 ** 31, LEAST), ("*", 2 ** 32, 2 ** 32, 0), ("*", LEAST, -1, LEAST)):
            self.gives(("op", sign, number(a), number(b)), number(n))

    def test_division(self):
        for a, b, quotient, rest in ((7, 2, 3, 1), (-7, 2, -4, 1), (7, -2, -4, -1), (-7, -2, 3, -1), (6, 3, 2, 0), (-6, 3, -2, 0),
                                     (6, -3, -2, 0), (-6, -3, 2, 0), (0, 3, 0, 0), (LEAST, 1, LEAST, 0), (LEAST, -1, LEAST, 0),
                                     (LEAST, 2, -2 ** 62, 0), (LEAST, LEAST, 1, 0), (LEAST, GREATEST, -2, GREATEST - 1),
                                     (GREATEST, LEAST, -1, -1), (1, LEAST, -1, LEAST + 1), (-1, LEAST, 0, -1)):
            self.gives(("op", "/", number(a), number(b)), number(quotient))
            self.gives(("op", "mod", number(a), number(b)), number(rest))
        for a in (0, 1, -1, LEAST, GREATEST):
            self.gives(("op", "/", number(a), number(0)), "division")
            self.gives(("op", "mod", number(a), number(0)), "division")

    def test_comparisons(self):
        signs = ("==", "!=", "<", "<=", ">", ">=")
        for a, b, truths in ((1, 1, (1, 0, 0, 1, 0, 1)), (1, 2, (0, 1, 1, 1, 0, 0)), (2, 1, (0, 1, 0, 0, 1, 1)),
                             (LEAST, GREATEST, (0, 1, 1, 1, 0, 0)), (-1, 1, (0, 1, 1, 1, 0, 0))):
            for sign, truth in zip(signs, truths):
                self.gives(("op", sign, number(a), number(b)), number(truth))
        for a, b, truths in (("a", "a", (1, 0, 0, 1, 0, 1)), ("a", "b", (0, 1, 1, 1, 0, 0)), ("ab", "a", (0, 1, 0, 0, 1, 1)),
                             ("", "a", (0, 1, 1, 1, 0, 0)), ("B", "a", (0, 1, 1, 1, 0, 0)), ("10", "9", (0, 1, 1, 1, 0, 0))):
            for sign, truth in zip(signs, truths):
                self.gives(("same", sign, text(a), text(b)), number(truth))


class Texts(Expressions):
    def test_len(self):
        for s in ("", "a", "a b", "x" * 32):
            self.gives(("len", text(s)), number(len(s)))

    def test_cat(self):
        self.gives("cat(\"ab\", \"cd\")", text("abcd"))
        self.gives("cat(\"\", \"\")", text(""))
        for one in (0, 1, 16, 31, 32):
            self.gives(("cat", text("x" * one), text("y" * (32 - one))), text("x" * one + "y" * (32 - one)))
            self.gives(("cat", text("x" * one), text("y" * (33 - one))), "long")
        self.gives(("cat", text("x" * 32), text("y" * 32)), "long")

    def test_sub(self):
        for a, n, part in ((0, 5, "hello"), (0, 2, "he"), (1, 3, "ell"), (4, 1, "o"), (4, 9, "o"), (3, 9, "lo"), (0, 99, "hello"),
                           (0, GREATEST, "hello"), (5, 1, ""), (6, 1, ""), (GREATEST, 1, ""), (-1, 3, ""), (-5, 9, ""),
                           (LEAST, 1, ""), (0, 0, ""), (1, 0, ""), (1, -1, ""), (0, -2, ""), (0, LEAST, ""), (4, GREATEST, "o"),
                           (0, 1, "h"), (-1, -1, "")):
            self.gives(("sub", text("hello"), number(a), number(n)), text(part))
        self.gives(("sub", text(""), number(0), number(1)), text(""))

    def test_text(self):
        for n in (0, 1, -1, 10, 907, -65535, GREATEST, LEAST):
            self.gives(("text", number(n)), text(str(n)))
        self.gives(("text", number(LEAST)), text("-9223372036854775808"))

    def test_byte(self):
        for a in (0, 1, 255, 128):
            self.gives(("byte", number(a)), number(MEMORY[a]))
        for a in (-1, 256, -256, 257, LEAST, GREATEST):
            self.gives(("byte", number(a)), "byte")
        for a in (-1, 0, 255, 256):
            self.gives(("byte", number(a)), "byte", view=TICK)


class Ways(Expressions):
    """What is evaluated, in which order, is counted by the calls of spec."""

    def calls(self, expr, value, calls, **given):
        found, store = all_ways(script_of(f"trace({expr});"), **given)
        self.assertEqual(repr(found[-1][-1] if found[-1][0] == "fault" else found[-1][3][0]), repr(value), expr)
        self.assertEqual(store.calls, calls, expr)

    def test_and(self):
        self.calls("0 && spec()", number(0), 0)
        self.calls("spec() - 1 && spec()", number(0), 1)
        self.calls("5 && spec() + 6", number(1), 1)
        self.calls("-1 && 0", number(0), 0)
        self.calls("spec() && spec()", number(1), 2)
        self.calls("spec() && spec()", number(0), 1, empty=(0,))
        self.calls("spec() && spec()", number(0), 2, empty=(1,))

    def test_or(self):
        self.calls("7 || spec()", number(1), 0)
        self.calls("spec() || spec()", number(1), 1)
        self.calls("0 || spec() + 6", number(1), 1)
        self.calls("spec() || spec()", number(1), 2, empty=(0,))
        self.calls("spec() || spec()", number(0), 2, empty=(0, 1))
        self.calls("0 || -3", number(1), 0)

    def test_if(self):
        self.calls("1 ? 2 : spec()", number(2), 0)
        self.calls("0 ? spec() : 3", number(3), 0)
        self.calls("-1 ? spec() + 8 : spec() + spec()", number(9), 1)
        self.calls("0 ? spec() : spec() + spec()", number(3), 2)
        self.calls("spec() ? \"yes\" : \"no\"", text("yes"), 1)
        self.calls("spec() ? \"yes\" : \"no\"", text("no"), 1, empty=(0,))

    def test_operands_from_left_to_right(self):
        self.calls("spec() * 10 + spec()", number(12), 2)
        self.calls("spec() - spec() * 5", number(-9), 2)
        self.calls("cat(text(spec()), cat(text(spec()), text(spec())))", text("123"), 3)
        self.calls("sub(text(spec() + 8), spec() - 2, spec())", text("9"), 3)
        self.calls("spec() < spec()", number(1), 2)
        self.calls("text(spec()) == text(spec())", number(0), 2)
        self.calls("spec() mod spec() == 1 && spec() == 3", number(1), 3)

    def test_a_fault_ends_the_evaluation(self):
        self.calls("1 / 0 + spec()", "division", 0)
        self.calls("spec() + 1 mod 0 + spec()", "division", 1)
        self.calls("spec() / 0", "division", 1)
        self.calls("0 / (spec() - 1)", "division", 1)
        self.calls("byte(256) + spec()", "byte", 0)
        self.calls("byte(spec() - 2) + spec()", "byte", 1)
        self.calls("len(cat(name, cat(\"{0}\", \"{0}\"))) + spec()".format("x" * 14), "long", 0)
        self.calls("a[1 / 0] + spec()", "division", 0)
        self.calls("b[text(spec()), byte(-1)] == text(spec())", "byte", 1)
        self.calls("!(1 / 0)", "division", 0)
        self.calls("-(1 / 0)", "division", 0)
        self.calls("sub(name, 1 / 0, spec())", "division", 0)
        self.calls("1 / 0 ? spec() : spec()", "division", 0)
        self.calls("0 && 1 / 0 || 1", number(1), 0)
        self.calls("1 || 1 / 0", number(1), 0)
        self.calls("1 ? 4 : 1 / 0", number(4), 0)
        self.calls("1 && 1 / 0", "division", 0)
        self.calls("spec() && byte(300)", "byte", 1)

    def test_faults_are_told_where_they_happen(self):
        self.calls("1 / 0 + byte(-1)", "division", 0)
        self.calls("byte(-1) + 1 / 0", "byte", 0)

    def test_variables_are_asked_for_in_order(self):
        store = all_ways(script_of("trace(g + a[h] * self.t, b[s, g], self.u);"))[1]
        self.assertEqual([told[:2] for told in store.log[:-1]], [
            ("global", 0), ("global", 1), ("array", 0), ("thread", 3), ("global", 2), ("global", 0), ("array", 1),
            ("thread", 3)])

    def test_each_mention_asks(self):
        store = all_ways(script_of("trace(g + g, g);"))[1]
        self.assertEqual([told[:2] for told in store.log[:-1]], [("global", 0)] * 3)

    def test_what_is_not_evaluated_is_not_asked(self):
        store = all_ways(script_of("trace(g && h, 1 || g, 0 ? g : h);"))[1]
        self.assertEqual([told[:2] for told in store.log[:-1]], [("global", 0), ("global", 1)])


class Deep(Expressions):
    """More than eight values are needed at once."""

    def nested(self, depth, word):
        if depth == 0:
            return word
        return f"({word} - {self.nested(depth - 1, word)})"

    def test_many_values_wait(self):
        for depth in (5, 6, 7, 8, 9, 20, 38):
            self.gives(self.nested(depth, "3"), number(3 if depth % 2 == 0 else 0))
        self.gives("spec() - (spec() - (spec() - (spec() - (spec() - (spec() - (spec() - (spec() - (spec() - spec()))))))))",
                   number(1 - 2 + 3 - 4 + 5 - 6 + 7 - 8 + 9 - 10))

    def test_both_sides_are_deep(self):
        def full(depth):
            return "spec()" if depth == 0 else f"({full(depth - 1)} - {full(depth - 1)} * 3)"

        def worked(depth, calls):
            if depth == 0:
                calls.append(len(calls) + 1)
                return calls[-1]
            one = worked(depth - 1, calls)
            return one - worked(depth - 1, calls) * 3

        for depth in range(7):
            self.gives(full(depth), number(worked(depth, [])))

    def test_three_operands_at_each_depth(self):
        expr = "s"
        for k in range(12):
            expr = f"cat(sub(\"abcdef\", {k} mod 6, 1 + ({'g - (' * k}0{')' * k})), {expr})"
            self.gives(expr, text("".join("abcdef"[j % 6] for j in range(k, -1, -1))))

    def test_texts_and_numbers_wait_side_by_side(self):
        inner = "sub(cat(name, text(g)), len(s), 3)"
        for k in range(9):
            inner = f"sub(cat(text({k}), {inner}), len(cat(\"\", \"\")) + (g - (g - (g - g))), 4 + len({inner if k < 2 else 's'}))"
        found = value_of(inner)
        self.assertEqual(found, text("8765"))

    def test_keys_within_keys(self):
        expr = "1"
        for _ in range(12):
            expr = f"a[{expr} - a[2]]"

        def prepare(store):
            store.arrays = {(0, (("int", n),)): ("int", n + 1) for n in range(1, 20) if n != 2}

        self.assertEqual(value_of(expr, prepare=prepare), number(0))
        self.gives("a[1] + a[a[3]] * 100", number(502), prepare=prepare)


class Stores(unittest.TestCase):
    def test_the_store_is_left_as_it_was(self):
        script = script_of("trace(g, a[1], self.t);")
        store = all_ways(script)[1]
        self.assertEqual(store.image(), Store(script).image())
        self.assertEqual(EVENT, VIEW[0])


if __name__ == "__main__":
    unittest.main()
