"""Points 5.4 to 5.6: variables, tries that are lost, and calls that are empty."""

import unittest

from clauses import MEMORY

from tapline.check import typed_script
from tapline.meaning import Meaning

DECLARED = "int n; str s; int a[int]; str b[str, int]; int c[int, str, int]; thread int t; thread str u; "


def number(n):
    return ("int", n)


def text(s):
    return ("str", s)


def at(tid, call=0):
    """A view of a system call of a thread; of the thread -1 a tick."""
    if tid == -1:
        return (("tick", 0, 5, -1, -1, -1, ()), (0, 0, 0, 0), ())
    return (("entry", 0, 5, 0, tid, 9, (call, 1, 2)), (call, 1, 2, 3), MEMORY)


def meaning_of(text_of_probes, lost=(), empty=()):
    return Meaning(typed_script(DECLARED + text_of_probes), lost, empty)


class Variables(unittest.TestCase):
    def test_zero_values_at_first(self):
        meaning = meaning_of("probe tick { trace(n, s, a[0], b[\"\", 0], c[1, \"x\", 2], self.t, self.u); }")
        self.assertEqual(meaning.variables(), ((number(0), text("")), (), ()))
        ((_, (deed,)),) = meaning.handle(at(-1))
        self.assertEqual(deed[3], (number(0), text(""), number(0), text(""), number(0), number(0), text("")))
        self.assertEqual((meaning.tries, meaning.calls, meaning.ended), (0, 0, False))

    def test_globals(self):
        meaning = meaning_of("probe tick { n = n + 1; s = cat(s, \"x\"); } probe entry { n = 0; }")
        for k in range(1, 4):
            self.assertEqual(meaning.handle(at(-1)), ((0, (
                ("set", ("global", 0), (), number(k), True), ("set", ("global", 1), (), text("x" * k), True))),))
            self.assertEqual(meaning.variables(), ((number(k), text("x" * k)), (), ()))
        meaning.handle(at(0))
        self.assertEqual(meaning.variables(), ((number(0), text("xxx")), (), ()))
        self.assertEqual(meaning.tries, 0)

    def test_thread_variables(self):
        meaning = meaning_of("probe entry, tick { self.t = self.t + 2; self.u = text(tid); }")
        for tid in (3, -1, 0, 3, 11):
            meaning.handle(at(tid))
        self.assertEqual(meaning.variables()[1], (
            (-1, 0, number(2)), (-1, 1, text("-1")), (0, 0, number(2)), (0, 1, text("0")),
            (3, 0, number(4)), (3, 1, text("3")), (11, 0, number(2)), (11, 1, text("11"))))
        self.assertEqual(meaning.tries, 10)

    def test_deeds_of_the_thread_minus_one(self):
        meaning = meaning_of("probe tick { self.t = 7; trace(self.t); }")
        self.assertEqual(meaning.handle(at(-1)), ((0, (
            ("set", ("thread", 0), (), number(7), True), ("record", None, "trace", (number(7),)))),))
        self.assertEqual(meaning.variables()[1], ((-1, 0, number(7)),))

    def test_arrays(self):
        meaning = meaning_of("probe entry { a[arg0] = tid; b[text(arg0), -tid] = \"v\"; c[tid, \"k\", arg0] = 1; }")
        self.assertEqual(meaning.handle(at(2, 10)), ((0, (
            ("set", ("array", 0), (number(10),), number(2), True),
            ("set", ("array", 1), (text("10"), number(-2)), text("v"), True),
            ("set", ("array", 2), (number(2), text("k"), number(10)), number(1), True))),))
        for tid, call in ((1, 9), (3, -4), (1, 10), (1, 9)):
            meaning.handle(at(tid, call))
        self.assertEqual(meaning.variables()[2], (
            (0, (number(-4),), number(3)), (0, (number(9),), number(1)), (0, (number(10),), number(1)),
            (1, (text("-4"), number(-3)), text("v")), (1, (text("10"), number(-2)), text("v")),
            (1, (text("10"), number(-1)), text("v")), (1, (text("9"), number(-1)), text("v")),
            (2, (number(1), text("k"), number(9)), number(1)), (2, (number(1), text("k"), number(10)), number(1)),
            (2, (number(2), text("k"), number(10)), number(1)), (2, (number(3), text("k"), number(-4)), number(1))))
        self.assertEqual(meaning.tries, 15)

    def test_the_zero_value_takes_an_element_away(self):
        meaning = meaning_of("probe entry { a[tid] = arg0; self.t = arg0; self.u = arg0 ? \"y\" : \"\"; }")
        meaning.handle(at(1, 5))
        meaning.handle(at(2, 6))
        self.assertEqual(meaning.variables()[1:], (
            ((1, 0, number(5)), (1, 1, text("y")), (2, 0, number(6)), (2, 1, text("y"))),
            ((0, (number(1),), number(5)), (0, (number(2),), number(6)))))
        ((_, deeds),) = meaning.handle(at(1, 0))
        self.assertEqual(deeds, (("set", ("array", 0), (number(1),), number(0), True),
                                 ("set", ("thread", 0), (), number(0), True), ("set", ("thread", 1), (), text(""), True)))
        self.assertEqual(meaning.variables()[1:], (((2, 0, number(6)), (2, 1, text("y"))), ((0, (number(2),), number(6)),)))
        meaning.handle(at(7, 0))
        self.assertEqual(meaning.variables()[1:], (((2, 0, number(6)), (2, 1, text("y"))), ((0, (number(2),), number(6)),)))
        self.assertEqual(meaning.tries, 12)


class Tries(unittest.TestCase):
    def kept(self, meaning, view):
        return [deed[4] for _, deeds in meaning.handle(view) for deed in deeds if deed[0] == "set"]

    def test_lost_at_the_first_a_middle_and_the_last_number(self):
        meaning = meaning_of("probe entry { a[1] = a[1] + 1; n = n + 1; self.t = self.t + 1; a[2] = 5; }", (0, 4, 8))
        self.assertEqual(self.kept(meaning, at(0)), [False, True, True, True])
        self.assertEqual(meaning.tries, 3)
        self.assertEqual(meaning.variables(), ((number(1), text("")), ((0, 0, number(1)),), ((0, (number(2),), number(5)),)))
        self.assertEqual(self.kept(meaning, at(0)), [True, True, False, True])
        self.assertEqual(meaning.tries, 6)
        self.assertEqual(meaning.variables()[1:], (((0, 0, number(1)),), (
            (0, (number(1),), number(1)), (0, (number(2),), number(5)))))
        self.assertEqual(self.kept(meaning, at(0)), [True, True, True, False])
        self.assertEqual(meaning.tries, 9)
        self.assertEqual(self.kept(meaning, at(0)), [True, True, True, True])

    def test_a_lost_try_changes_nothing_and_tells_its_value(self):
        meaning = meaning_of("probe entry { a[1] = 3; a[1] = 4; trace(a[1]); a[1] = 5; trace(a[1]); }", (1,))
        ((_, deeds),) = meaning.handle(at(0))
        self.assertEqual(deeds, (
            ("set", ("array", 0), (number(1),), number(3), True), ("set", ("array", 0), (number(1),), number(4), False),
            ("record", None, "trace", (number(3),)), ("set", ("array", 0), (number(1),), number(5), True),
            ("record", None, "trace", (number(5),))))

    def test_a_try_of_the_zero_value_is_lost(self):
        meaning = meaning_of("probe entry { self.u = \"x\"; self.u = \"\"; } probe tick { a[0] = 0; self.t = 0; }", (1, 3))
        self.assertEqual(self.kept(meaning, at(4)), [True, False])
        self.assertEqual(meaning.variables()[1], ((4, 1, text("x")),))
        self.assertEqual(self.kept(meaning, at(-1)), [True, False])
        self.assertEqual(meaning.tries, 4)
        self.assertEqual(self.kept(meaning, at(4)), [True, True])
        self.assertEqual(meaning.variables()[1], ())

    def test_what_is_no_try(self):
        meaning = meaning_of("probe entry { int i; i = 4; n = 1; s = \"x\"; @q[1] = count(); trace(a[1]); a[1 / 0] = 3; }", (0,))
        ((_, deeds),) = meaning.handle(at(0))
        self.assertEqual(meaning.tries, 0)
        self.assertEqual(deeds[0], ("set", ("global", 0), (), number(1), True))
        self.assertEqual(deeds[-1], ("fault", "division"))

    def test_a_fault_in_the_value_comes_before_the_try(self):
        meaning = meaning_of("probe entry { self.t = 1 / 0; } probe entry { a[3] = 8; }", (0,))
        self.assertEqual(meaning.handle(at(0)), (
            (0, (("fault", "division"),)), (1, (("set", ("array", 0), (number(3),), number(8), False),))))
        self.assertEqual(meaning.tries, 1)

    def test_numbers_that_never_come(self):
        meaning = meaning_of("probe entry { a[1] = 1; }", (99, -1, 1))
        self.assertEqual(self.kept(meaning, at(0)) + self.kept(meaning, at(0)) + self.kept(meaning, at(0)), [True, False, True])


class Calls(unittest.TestCase):
    def numbers(self, meaning, many):
        found = []
        for _ in range(many):
            ((_, (deed,)),) = meaning.handle(at(0))
            found += [held for _, held in deed[3]]
        return found

    def test_numbers_of_the_others(self):
        meaning = meaning_of("probe entry { trace(spec(), spec()); }", (), (0, 3, 4))
        self.assertEqual(self.numbers(meaning, 4), [0, 1, 2, 0, 0, 3, 4, 5])
        self.assertEqual(meaning.calls, 8)

    def test_none_is_empty(self):
        meaning = meaning_of("probe entry { trace(spec()); }")
        self.assertEqual(self.numbers(meaning, 3), [1, 2, 3])
        self.assertEqual(meaning.calls, 3)

    def test_all_are_empty(self):
        meaning = meaning_of("probe entry { trace(spec()); }", (), tuple(range(5)))
        self.assertEqual(self.numbers(meaning, 6), [0, 0, 0, 0, 0, 1])

    def test_numbers_are_not_given_again(self):
        meaning = meaning_of("probe entry { n = spec(); discard(n); trace(n); }")
        deeds = [meaning.handle(at(0))[0][1] for _ in range(3)]
        self.assertEqual([row[1:] for row in deeds], [
            (("discard", k), ("record", None, "trace", (number(k),))) for k in (1, 2, 3)])

    def test_open_until_committed_or_discarded(self):
        meaning = meaning_of("probe entry:1 { n = spec(); } probe entry:2 { speculate(n); say(); } probe entry:3 { commit(n); }"
                             "probe entry:4 { discard(n); }")
        say = lambda n: ((1, (("record", n, "say", ()),)),)
        fault = lambda clause: ((clause, (("fault", "speculation"),)),)
        meaning.handle(at(0, 1))
        for _ in range(2):
            self.assertEqual(meaning.handle(at(0, 2)), say(1))
        self.assertEqual(meaning.handle(at(0, 3)), ((2, (("commit", 1),)),))
        for call in (2, 3, 4):
            self.assertEqual(meaning.handle(at(0, call)), fault(call - 1))
        meaning.handle(at(0, 1))
        self.assertEqual(meaning.handle(at(0, 2)), say(2))
        self.assertEqual(meaning.handle(at(0, 4)), ((3, (("discard", 2),)),))
        for call in (2, 3, 4):
            self.assertEqual(meaning.handle(at(0, call)), fault(call - 1))

    def test_tries_and_calls_behind_each_view(self):
        meaning = meaning_of("probe entry { a[spec()] = spec(); self.t = a[1] / arg0; } probe entry:0 { n = spec(); }")
        counts = []
        for call in (1, 0, 2):
            meaning.handle(at(0, call))
            counts.append((meaning.tries, meaning.calls))
        self.assertEqual(counts, [(2, 2), (3, 5), (5, 7)])


class TwoMeanings(unittest.TestCase):
    def test_they_do_not_touch_each_other(self):
        script = typed_script(DECLARED + "probe entry { n = n + 1; a[n] = spec(); self.t = n; trace(n); }"
                                         "probe entry:7 { stop(); }")
        one, other = Meaning(script, (0,), (0,)), Meaning(script, (), ())
        for _ in range(3):
            one.handle(at(1))
        one.handle(at(1, 7))
        self.assertTrue(one.ended)
        self.assertEqual((other.variables(), other.tries, other.calls, other.ended), (((number(0), text("")), (), ()), 0, 0, False))
        self.assertEqual(other.handle(at(1)), ((0, (
            ("set", ("global", 0), (), number(1), True), ("set", ("array", 0), (number(1),), number(1), True),
            ("set", ("thread", 0), (), number(1), True), ("record", None, "trace", (number(1),)))),))
        self.assertEqual(one.variables()[0], (number(4), text("")))

    def test_what_was_returned_stays(self):
        meaning = meaning_of("probe entry { a[1] = a[1] + 1; self.t = 3; n = 9; }")
        meaning.handle(at(0))
        before = meaning.variables()
        meaning.handle(at(0))
        self.assertEqual(before, ((number(9), text("")), ((0, 0, number(3)),), ((0, (number(1),), number(1)),)))

    def test_a_script_without_variables(self):
        meaning = Meaning(typed_script("probe tick { trace(); }"), (), ())
        meaning.handle(at(-1))
        self.assertEqual(meaning.variables(), ((), (), ()))
        self.assertEqual(Meaning(typed_script(""), (), ()).handle(at(-1)), ())


if __name__ == "__main__":
    unittest.main()
