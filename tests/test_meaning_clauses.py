"""Points 5.8 to 5.11: what clauses do."""

import unittest

from clauses import MEMORY, all_ways, deeds_of
from drawn_scripts import drawn_script, drawn_views, of_session
from second_meaning import SecondSession
from stores import Store

from tapline.check import typed_script
from tapline.meaning import Meaning


def number(n):
    return ("int", n)


def text(s):
    return ("str", s)


def entry(call, pid=0, tid=0):
    return (("entry", 0, 5, pid, tid, 9, (call, 1, 2)), (call, 1, 2, 3), MEMORY)


TICK = (("tick", 0, 5, -1, -1, -1, ()), (0, 0, 0, 0), ())


def say(*values, spec=None):
    return ("record", spec, "say", values)


def trace(*values, spec=None):
    return ("record", spec, "trace", values)


class Firing(unittest.TestCase):
    def test_several_clauses_at_one_view(self):
        meaning = Meaning(typed_script("""
            int n;
            probe entry { n = n + 1; } probe tick { trace(1); } probe entry:4, entry:3 { trace(n); }
            probe entry:*:8 { trace(2); } probe entry:*:9, entry { n = n * 2; say(n); }"""), (), ())
        self.assertEqual(meaning.handle(entry(3)), (
            (0, (("set", ("global", 0), (), number(1), True),)), (2, (trace(number(1)),)),
            (4, (("set", ("global", 0), (), number(2), True), say(number(2))))))
        self.assertEqual([index for index, _ in meaning.handle(entry(5))], [0, 4])
        self.assertEqual(meaning.handle(TICK), ((1, (trace(number(1)),)),))

    def test_a_clause_fires_once(self):
        meaning = Meaning(typed_script("probe entry, entry:3, entry:*:9 { trace(); }"), (), ())
        self.assertEqual(meaning.handle(entry(3)), ((0, (trace(),)),))

    def test_locals_begin_anew(self):
        script = typed_script("probe entry { int i; str w; trace(i, w); i = 5; w = \"x\"; } probe entry { int i; trace(i); i = 1; }")
        meaning = Meaning(script, (), ())
        for _ in range(2):
            self.assertEqual(meaning.handle(entry(1)), (
                (0, (trace(number(0), text("")),)), (1, (trace(number(0)),))))

    def test_clauses_without_deeds_are_left_out(self):
        meaning = Meaning(typed_script("probe entry { } probe entry { int i; i = spec(); } probe entry when 0 { trace(); }"
                                       "probe entry { speculate(0); say(); commit(0); } probe entry { trace(); }"), (), ())
        self.assertEqual(meaning.handle(entry(1)), ((4, (trace(),)),))
        self.assertEqual(meaning.handle(TICK), ())


class Predicates(unittest.TestCase):
    def test_numbers(self):
        for n, fires in ((0, False), (1, True), (-1, True), (7, True), (2 ** 63 - 1, True)):
            self.assertEqual(deeds_of("trace();", head=f"when {n} "), (trace(),) if fires else ())

    def test_it_comes_first_and_its_fault_is_a_deed(self):
        for predicate, word in (("1 / 0", "division"), ("byte(-1)", "byte"), ("len(cat(s, cat(\"{0}\", \"{0}\")))".format("x" * 17), "long")):
            self.assertEqual(deeds_of("trace();", head=f"when {predicate} "), (("fault", word),))

    def test_it_is_evaluated_at_each_view_with_the_variables(self):
        meaning = Meaning(typed_script("int n; probe entry { n = n + 1; } probe entry when n mod 2 { say(n); }"), (), ())
        self.assertEqual([len(meaning.handle(entry(1))) for _ in range(4)], [2, 1, 2, 1])

    def test_it_has_the_locals(self):
        self.assertEqual(deeds_of("int g; g = 4; trace(g);", head="when g == 0 ", prepare=one), (trace(number(4)),))
        self.assertEqual(deeds_of("int g; trace(g);", head="when g == 1 ", prepare=one), ())
        meaning = Meaning(typed_script("int n; probe entry { n = 1; } probe entry when n { int n; trace(n); }"), (), ())
        self.assertEqual([index for index, _ in meaning.handle(entry(1))], [0])

    def test_calls_in_it_count(self):
        meaning = Meaning(typed_script("probe entry when spec() == 2 { trace(spec()); }"), (), ())
        self.assertEqual(meaning.handle(entry(1)), ())
        self.assertEqual(meaning.handle(entry(1)), ((0, (trace(number(3)),)),))


def one(store):
    store.globals[0] = number(1)


class Faults(unittest.TestCase):
    def test_deeds_before_a_fault_stay(self):
        self.assertEqual(deeds_of("g = 5; trace(g); h = g / (g - 5); trace(h);"), (
            ("set", ("global", 0), (), number(5), True), trace(number(5)), ("fault", "division")))

    def test_it_ends_the_clause_alone(self):
        meaning = Meaning(typed_script("int n; probe entry { n = 3; n = byte(n - 4); n = 9; } probe entry { trace(n); }"), (), ())
        for _ in range(2):
            self.assertEqual(meaning.handle(entry(1)), (
                (0, (("set", ("global", 0), (), number(3), True), ("fault", "byte"))), (1, (trace(number(3)),))))
        self.assertFalse(meaning.ended)

    def test_in_each_action(self):
        for action in ("trace(1, 1 / 0);", "say(1 / 0);", "int i; i = 1 / 0;", "g = 1 / 0;", "self.t = 1 / 0;", "a[1 / 0] = 2;",
                       "a[2] = 1 / 0;", "@q[1 / 0] = count();", "@q = sum(1 / 0);", "@q[5, 1 / 0] = most(4);",
                       "speculate(1 / 0);", "commit(1 / 0);", "discard(1 / 0);"):
            self.assertEqual(deeds_of(action + " trace();"), (("fault", "division"),), action)


class Records(unittest.TestCase):
    def test_values(self):
        self.assertEqual(deeds_of("trace(); say(); trace(1, \"a\", -2, name); say(now, s, \"\");"), (
            trace(), say(), trace(number(1), text("a"), number(-2), text("entry")), say(number(77), text(""), text(""))))

    def test_sixteen_values(self):
        values = ", ".join(f"g + {k}" for k in range(16))
        self.assertEqual(deeds_of(f"trace({values});"), (trace(*[number(k) for k in range(16)]),))
        values = ", ".join(f"text(spec() + {k})" for k in range(16))
        self.assertEqual(deeds_of(f"say({values});"), (say(*[text(str(2 * k + 1)) for k in range(16)]),))


class Puts(unittest.TestCase):
    def test_each_form(self):
        self.assertEqual(deeds_of("@c = count(); @s[tid] = sum(-7); @l[\"x\", 2] = least(g); @m[1, name, 3] = most(now); @h = hist(0);"), (
            ("put", 0, (), None), ("put", 1, (number(3),), -7), ("put", 2, (text("x"), number(2)), 0),
            ("put", 3, (number(1), text("entry"), number(3)), 77), ("put", 4, (), 0)))

    def test_keys_come_before_the_value(self):
        self.assertEqual(deeds_of("@s[spec(), spec()] = sum(spec());"), (("put", 0, (number(1), number(2)), 3),))

    def test_one_table_in_two_places(self):
        self.assertEqual(deeds_of("@x = count(); @y[1] = sum(2); @x = count(); @y[5] = sum(6);"), (
            ("put", 0, (), None), ("put", 1, (number(1),), 2), ("put", 0, (), None), ("put", 1, (number(5),), 6)))


class Sets(unittest.TestCase):
    def test_each_form(self):
        self.assertEqual(deeds_of("int i; str w; g = 3; s = \"t\"; self.t = 4; self.u = \"\"; a[g] = 5; b[s, -1] = \"v\"; i = 9; w = s;"), (
            ("set", ("global", 0), (), number(3), True), ("set", ("global", 2), (), text("t"), True),
            ("set", ("thread", 0), (), number(4), True), ("set", ("thread", 1), (), text(""), True),
            ("set", ("array", 0), (number(3),), number(5), True),
            ("set", ("array", 1), (text("t"), number(-1)), text("v"), True)))

    def test_keys_come_before_the_value(self):
        self.assertEqual(deeds_of("a[spec()] = spec() * 10;"), (("set", ("array", 0), (number(1),), number(20), True),))
        self.assertEqual(deeds_of("a[a[1]] = a[1] + 1; a[a[1]] = 8; a[0] = a[a[0]];"), (
            ("set", ("array", 0), (number(0),), number(1), True), ("set", ("array", 0), (number(0),), number(8), True),
            ("set", ("array", 0), (number(0),), number(0), True)))

    def test_a_key_that_is_a_local_has_its_value_of_then(self):
        self.assertEqual(deeds_of("int i; i = 4; a[i] = i + 1; i = 5; a[i] = a[4]; trace(i, i + 1); i = a[i];"
                                  "@q[i] = sum(i); trace(i);"), (
            ("set", ("array", 0), (number(4),), number(5), True), ("set", ("array", 0), (number(5),), number(5), True),
            trace(number(5), number(6)), ("put", 0, (number(5),), 5), trace(number(5))))


class Speculations(unittest.TestCase):
    def test_records_belong_to_it(self):
        self.assertEqual(deeds_of("int i; i = spec(); trace(1); speculate(i); trace(2); say(3); speculate(0); trace(4); say();"
                                  "speculate(i); trace(5);"), (
            trace(number(1)), trace(number(2), spec=1), say(number(3), spec=1), trace(number(5), spec=1)))

    def test_another_one_behind_it(self):
        self.assertEqual(deeds_of("int i; int j; i = spec(); j = spec(); speculate(i); trace(i); speculate(j); trace(j); commit(i);"
                                  "trace(8); commit(j); trace(9);"), (
            trace(number(1), spec=1), trace(number(2), spec=2), ("commit", 1), trace(number(8), spec=2), ("commit", 2),
            trace(number(9))))

    def test_values_of_records_that_vanish_are_evaluated(self):
        self.assertEqual(deeds_of("speculate(0); trace(spec()); say(spec()); speculate(spec() - 1); trace(1 / 0);"), (
            ("fault", "division"),))
        self.assertEqual(deeds_of("speculate(0); trace(spec()); discard(1); trace(); speculate(spec()); trace();"), (
            ("discard", 1), trace(spec=2)))

    def test_one_that_is_not_open(self):
        for n in ("1", "-1", "7", "9223372036854775807", "-9223372036854775807"):
            for action in ("speculate", "commit", "discard"):
                self.assertEqual(deeds_of(f"trace(1); {action}({n}); trace(2);"), (trace(number(1)), ("fault", "speculation")))

    def test_nothing_happens_for_0(self):
        self.assertEqual(deeds_of("commit(0); discard(g); trace(1);"), (trace(number(1)),))
        self.assertEqual(deeds_of("int i; i = spec(); speculate(i); commit(0); discard(0); say();"), (say(spec=1),))

    def test_commit_and_discard(self):
        for word in ("commit", "discard"):
            self.assertEqual(deeds_of(f"int i; i = spec() + spec(); {word}(2); {word}(1); {word}(1); trace();"), (
                (word, 2), (word, 1), ("fault", "speculation")))
            self.assertEqual(deeds_of(f"{word}(spec()); speculate(1); trace();"), ((word, 1), ("fault", "speculation")))
            self.assertEqual(deeds_of(f"{word}(spec()); commit(1); trace();"), ((word, 1), ("fault", "speculation")))
            self.assertEqual(deeds_of(f"{word}(spec()); discard(1); trace();"), ((word, 1), ("fault", "speculation")))

    def test_records_behind_an_own_commit(self):
        for word in ("commit", "discard"):
            self.assertEqual(deeds_of(f"speculate(spec()); trace(1); {word}(1); trace(2); say(3);"), (
                trace(number(1), spec=1), (word, 1), trace(number(2)), say(number(3))))

    def test_one_committed_before_the_speculate_of_another(self):
        self.assertEqual(deeds_of("int i; i = spec() + spec(); speculate(1); commit(1); speculate(2); trace(); discard(2); trace();"
                                  "speculate(0); trace();"), (("commit", 1), trace(spec=2), ("discard", 2), trace()))

    def test_one_store_opens_it_anew(self):
        """Behind its speculate it was not committed."""
        def prepare(store):
            store.commit = lambda n: store.note(None, "commit", n)

        self.assertEqual(deeds_of("speculate(3); commit(3); trace(1); speculate(3); trace(2);", prepare=prepare, opened=(3,)), (
            ("commit", 3), trace(number(1)), trace(number(2), spec=3)))

    def test_the_next_clause_begins_without_one(self):
        meaning = Meaning(typed_script("int n; probe entry { n = spec(); speculate(n); trace(1); } probe entry { trace(2); }"
                                       "probe entry { speculate(0); } probe entry { trace(3); }"), (), ())
        deeds = meaning.handle(entry(1))
        self.assertEqual([row[-1] for _, row in deeds], [
            trace(number(1), spec=1), trace(number(2)), trace(number(3))])

    def test_it_lasts_over_views_and_clauses(self):
        meaning = Meaning(typed_script("int n; probe entry:1 { n = spec(); } probe entry:2 { speculate(n); trace(); }"
                                       "probe tick { commit(n); trace(); }"), (), ())
        meaning.handle(entry(1))
        self.assertEqual(meaning.handle(entry(2)), ((1, (trace(spec=1),)),))
        self.assertEqual(meaning.handle(TICK), ((2, (("commit", 1), trace())),))
        self.assertEqual(meaning.handle(entry(2)), ((1, (("fault", "speculation"),)),))

    def test_what_the_store_is_asked(self):
        script = typed_script("probe entry { speculate(0); speculate(2); commit(0); trace(); commit(2); trace(); discard(5); }")
        store = all_ways(script, entry(1), opened=(2,))[1]
        self.assertEqual(store.log, [
            ("is_open", 2, True), ("record", 2, "trace", (), None), ("is_open", 2, True), ("commit", 2, None),
            ("record", None, "trace", (), None), ("is_open", 5, False), ("fault", "speculation", None)])


class Stops(unittest.TestCase):
    def test_in_the_first_clause(self):
        meaning = Meaning(typed_script("probe entry { trace(1); stop(); trace(2); } probe entry { trace(3); } probe tick { say(); }"), (), ())
        self.assertFalse(meaning.ended)
        self.assertEqual(meaning.handle(entry(1)), ((0, (trace(number(1)), ("stop",))),))
        self.assertIs(meaning.ended, True)
        for view in (entry(1), TICK, of_session("begin")):
            self.assertEqual(meaning.handle(view), ())
        self.assertEqual(meaning.handle(of_session("close")), ())

    def test_in_a_later_clause(self):
        meaning = Meaning(typed_script("int n; probe entry { n = n + 1; } probe entry when n == 2 { stop(); } probe entry { trace(n); }"), (), ())
        self.assertEqual([index for index, _ in meaning.handle(entry(1))], [0, 2])
        self.assertFalse(meaning.ended)
        self.assertEqual(meaning.handle(entry(1)), ((0, (("set", ("global", 0), (), number(2), True),)), (1, (("stop",),))))
        self.assertTrue(meaning.ended)
        self.assertEqual(meaning.handle(entry(1)), ())
        self.assertEqual(meaning.variables()[0], (number(2),))

    def test_a_predicate_or_a_fault_before_it(self):
        meaning = Meaning(typed_script("probe entry when 0 { stop(); } probe entry { trace(1 / 0); stop(); } probe entry { say(); }"), (), ())
        for _ in range(2):
            self.assertEqual(meaning.handle(entry(1)), ((1, (("fault", "division"),)), (2, (say(),))))
        self.assertFalse(meaning.ended)

    def test_at_a_close(self):
        script = typed_script("probe close { trace(1); } probe close { stop(); } probe close, entry { trace(2); }")
        meaning = Meaning(script, (), ())
        self.assertEqual(meaning.handle(entry(1)), ((2, (trace(number(2)),)),))
        for _ in range(2):
            self.assertEqual(meaning.handle(of_session("close")), ((0, (trace(number(1)),)), (1, (("stop",),))))
            self.assertTrue(meaning.ended)
            self.assertEqual(meaning.handle(entry(1)), ())

    def test_a_later_close(self):
        script = typed_script("int n; probe entry { n = spec(); stop(); } probe close { n = n + 5; trace(n); }"
                              "probe close:*:* when n > 5 { stop(); } probe close { say(); }")
        meaning = Meaning(script, (), ())
        meaning.handle(entry(1))
        self.assertEqual(meaning.handle(entry(1)), ())
        self.assertEqual(meaning.calls, 1)
        self.assertEqual(meaning.handle(of_session("close")), (
            (1, (("set", ("global", 0), (), number(6), True), trace(number(6)))), (2, (("stop",),))))
        script = typed_script("int n; probe entry { stop(); } probe close { trace(n); } probe close { n = 3; }")
        meaning = Meaning(script, (), ())
        meaning.handle(entry(1))
        for n in (0, 3):
            self.assertEqual(meaning.handle(of_session("close")), (
                (1, (trace(number(n)),)), (2, (("set", ("global", 0), (), number(3), True),))))
            self.assertTrue(meaning.ended)

    def test_what_stops_ends_at_once(self):
        self.assertEqual(deeds_of("g = 1; stop(); g = 2; trace(1 / 0);"), (("set", ("global", 0), (), number(1), True), ("stop",)))


class Compared(unittest.TestCase):
    def test_drawn_scripts_on_the_views_of_runs(self):
        words = {}
        for seed in range(220):
            script = drawn_script(seed, depth=seed % 4 + 1)
            lost, empty = ((), (0,), (0, 2, 3), tuple(range(1, 60, 4)))[seed % 4], ((), (0,), (1, 2), tuple(range(40)))[seed % 3]
            meaning, store = Meaning(script, lost, empty), Store(script, lost, empty)
            second = SecondSession(script, store)
            for view in drawn_views(seed) + [of_session("close", 100)]:
                deeds = meaning.handle(view)
                self.assertEqual(repr(deeds), repr(second.handle(view)), seed)
                self.assertEqual(repr(meaning.variables()), repr(store.image()))
                self.assertEqual((meaning.tries, meaning.calls, meaning.ended), (store.tries, store.calls, second.stopped))
                for deed in [deed for _, row in deeds for deed in row]:
                    word = deed[:2] if deed[0] == "fault" else deed[:1]
                    words[word] = words.get(word, 0) + 1
        self.assertEqual(len(words), 10)
        self.assertGreater(min(words.values()), 4, words)


if __name__ == "__main__":
    unittest.main()
