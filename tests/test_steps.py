"""Points 6.9 and 6.10: each of the six steps."""

import unittest

from drawn_code import SCRIPT, drawn_code, drawn_row
from drawn_scripts import drawn_views
from second_claims import second_step, strongest, strongest_known, strongest_needed, strongest_places, strongest_reached
from stores import drawn_store
from test_code import ROWS

from tapline.errors import BadStep
from tapline.judge import may_run
from tapline.run_code import run_code
from tapline.steps import take_step

END, SKIP = ("end",), ("skip",)
KINDS = ("int", "str", "int")


def n(number):
    return ("int", number)


def s(text):
    return ("str", text)


class Steps(unittest.TestCase):
    kinds = KINDS

    def becomes(self, rows, step, new):
        """The step puts one row, or several rows, in the place of its row."""
        code = (self.kinds, rows)
        r = step[1]
        taken = take_step(code, step)
        self.assertEqual(repr(taken), repr((self.kinds, rows[:r] + new + rows[r + 1:])))
        self.assertEqual(code, (self.kinds, rows))

    def refused(self, rows, step):
        with self.assertRaises(BadStep, msg=(rows, step)):
            take_step((self.kinds, rows), step)


class Fold(Steps):
    def test_rows_that_write_a_known_value(self):
        begin = (("const", 1, n(7)), ("const", 2, n(-2)), ("const", 3, s("abc")), ("const", 4, s("b")))
        known = ((), ((1, n(7)),), ((1, n(7)), (2, n(-2))), ((1, n(7)), (2, n(-2)), (3, s("abc"))))
        known += (known[3] + ((4, s("b")),), ())
        for row, value in ((("op", 5, "+", 1, 2), n(5)), (("op", 5, "-", 2, 1), n(-9)), (("op", 5, "*", 1, 2), n(-14)), (("op", 5, "/", 1, 2), n(-4)),
                           (("op", 5, "mod", 1, 2), n(-1)), (("compare", 5, "<=", 1, 2), n(0)), (("compare", 5, ">", 3, 4), n(0)),
                           (("compare", 5, "<", 3, 4), n(1)), (("minus", 5, 2), n(2)), (("not", 5, 2), n(0)), (("len", 5, 3), n(3)),
                           (("cat", 5, 4, 3), s("babc")), (("sub", 5, 3, 1, 1), s("")), (("text", 5, 2), s("-2")), (("minus", 1, 1), n(-7))):
            self.becomes(begin + (row, END), ("fold", 4, known), (("const", row[1], value),))
        for row in (("op", 5, "+", 1, 3), ("compare", 5, "==", 1, 3), ("minus", 5, 3), ("len", 5, 1), ("cat", 5, 1, 3), ("op", 5, "+", 1, 6),
                    ("text", 5, 7), ("minus", 5, 0)):
            self.refused(begin + (row, END), ("fold", 4, known))

    def test_wrapped_results(self):
        big = 2 ** 63 - 1
        rows = (("const", 1, n(big)), ("op", 1, "+", 1, 1), END)
        self.becomes(rows, ("fold", 1, ((), ((1, n(big)),), ())), (("const", 1, n(-2)),))
        rows = (("const", 1, n(-2 ** 63)), ("minus", 1, 1), END)
        self.becomes(rows, ("fold", 1, ((), ((1, n(-2 ** 63)),), ())), (("const", 1, n(-2 ** 63)),))

    def test_results_that_are_faults(self):
        rows = (("const", 1, n(0)), ("const", 2, s("x" * 17)))
        known = ((), ((1, n(0)),), ((1, n(0)), (2, s("x" * 17))), ())
        for row in (("op", 3, "/", 1, 1), ("op", 3, "mod", 1, 1), ("cat", 3, 2, 2)):
            self.refused(rows + (row, END), ("fold", 2, known))

    def test_other_rows(self):
        claim = ((), (), ())
        for row, *_ in ROWS:
            rows = (SKIP, row if row[0] not in ("jump", "zero") else row[:-1] + (2,), END)
            self.refused(rows, ("fold", 1, claim))
        self.refused((("const", 1, n(0)), ("const", 1, n(0)), END), ("fold", 1, ((), ((1, n(0)),), ((1, n(0)),))))

    def test_the_claim_must_hold_and_tell(self):
        rows = (("const", 1, n(7)), ("minus", 2, 1), END)
        self.becomes(rows, ("fold", 1, ((), ((1, n(7)),), ())), (("const", 2, n(-7)),))
        self.refused(rows, ("fold", 1, ((), ((1, n(8)),), ())))
        self.refused(rows, ("fold", 1, ((), (), ())))
        self.refused(rows, ("fold", 1, ((), ((1, n(7)),), ((2, n(7)),))))
        self.refused(rows, ("fold", 1, ((), ((1, n(7)),))))
        self.refused(rows, ("fold", 0, ((), ((1, n(7)),), ())))

    def test_a_row_that_cannot_be_reached(self):
        rows = (("jump", 2), ("not", 2, 6), END)
        self.becomes(rows, ("fold", 1, ((), ((6, n(3)),), ())), (("const", 2, n(0)),))


class Decide(Steps):
    def rows(self, value, t=3):
        return (("const", 1, value), ("zero", 1, t), ("record", "say", ()), END)

    def claim(self, value):
        return ((), ((1, value),), (), ())

    def test_known_numbers_and_texts(self):
        for t in (2, 3):
            self.becomes(self.rows(n(0), t), ("decide", 1, self.claim(n(0))), (("jump", t),))
            for value in (n(1), n(-1), n(2 ** 63 - 1), s(""), s("0")):
                self.becomes(self.rows(value, t), ("decide", 1, self.claim(value)), (SKIP,))

    def test_what_is_not_known(self):
        self.refused(self.rows(n(0)), ("decide", 1, ((), (), (), ())))
        self.refused(self.rows(n(0)), ("decide", 1, self.claim(n(1))))
        self.refused((("const", 2, n(0)), ("zero", 1, 2), END), ("decide", 1, ((), ((2, n(0)),), ())))
        self.refused((("arg", 1, 0), ("zero", 1, 2), END), ("decide", 1, ((), ((1, n(0)),), ())))

    def test_other_rows(self):
        for row, *_ in ROWS:
            if row[0] not in ("zero", "jump"):
                self.refused((("const", 1, n(0)), row, END), ("decide", 1, ((), ((1, n(0)),), ())))
        self.refused((("const", 1, n(0)), ("jump", 2), END), ("decide", 1, ((), ((1, n(0)),), ())))

    def test_a_row_that_cannot_be_reached(self):
        self.becomes((("jump", 2), ("zero", 4, 2), END), ("decide", 1, ((), ((4, n(0)),), ())), (("jump", 2),))
        self.becomes((("jump", 2), ("zero", 4, 2), END), ("decide", 1, ((), ((4, s("")),), ())), (SKIP,))


class Drop(Steps):
    DROPPED = ("const", "view", "arg", "reg", "get", "global", "thread", "array", "compare", "minus", "not", "len", "sub", "text")

    def with_target(self, row):
        return row[:-1] + (2,) if row[0] in ("jump", "zero") else row

    def test_each_row(self):
        for row, registers, *_ in ROWS:
            rows = (SKIP, self.with_target(row), SKIP, END)
            step = ("drop", 1, (registers, registers, (), ()))
            if row[0] in self.DROPPED:
                self.becomes(rows, step, (SKIP,))
            else:
                self.refused(rows, step)

    def test_each_sign(self):
        for sign in ("+", "-", "*"):
            self.becomes((("op", 1, sign, 2, 3), END), ("drop", 0, ((2, 3), ())), (SKIP,))
        for sign in ("/", "mod"):
            self.refused((("op", 1, sign, 2, 3), END), ("drop", 0, ((2, 3), ())))

    def test_a_register_that_is_needed(self):
        for row, registers, _, written in ROWS:
            if row[0] in self.DROPPED:
                wider = tuple(sorted({*registers, *range(8)} - {written}))
                self.refused((row, SKIP, END), ("drop", 0, (registers, (written,), ())))
                self.refused((row, SKIP, END), ("drop", 0, (wider, tuple(range(8)), ())))
                self.becomes((row, SKIP, END), ("drop", 0, (tuple(range(8)), tuple(a for a in range(8) if a != written), ())), (SKIP,))

    def test_the_claim_must_hold(self):
        rows = (("const", 1, n(0)), ("minus", 2, 1), END)
        self.refused(rows, ("drop", 0, ((), (1,), ())))
        self.refused(rows, ("drop", 0, ((), (), ())))
        self.becomes(rows, ("drop", 1, ((), (1,), ())), (SKIP,))
        self.refused(rows, ("drop", 1, ((), (), ())))
        self.refused(rows, ("drop", 1, ((), (1,))))

    def test_ways(self):
        rows = (("const", 1, n(0)), ("zero", 0, 3), ("minus", 2, 1), ("minus", 3, 3), END)
        self.refused(rows, ("drop", 0, ((0, 3), (0, 1, 3), (1, 3), (3,), ())))
        rows = (("const", 1, n(0)), ("jump", 3), ("minus", 2, 1), ("minus", 3, 3), END)
        self.becomes(rows, ("drop", 0, ((3,), (3,), (1, 3), (3,), ())), (SKIP,))

    def test_the_last_row(self):
        self.becomes((SKIP, ("const", 1, n(0))), ("drop", 1, ((), ())), (SKIP,))


class Forget(Steps):
    def test_a_place_that_is_not_read(self):
        rows = (("keep", 2, 5), ("record", "say", (0, 1)), ("get", 3, 2), END)
        self.becomes(rows[:2] + rows[3:], ("forget", 0, ((0, 1), (0, 1), ())), (SKIP,))
        self.refused(rows, ("forget", 0, ((0, 1), (0, 1, 2), (2,), ())))
        self.refused(rows, ("forget", 0, ((0, 1), (0, 1), (2,), ())))
        self.refused(rows, ("forget", 0, ((0, 1), (0, 1), (), ())))
        self.refused(rows[:2] + rows[3:], ("forget", 0, ((0, 1), (0, 1, 2), ())))
        self.refused(rows[:2] + rows[3:], ("forget", 0, ((0, 1), (0,), ())))

    def test_a_place_that_is_written_again(self):
        rows = (("keep", 2, 5), ("keep", 2, 6), ("get", 3, 2), END)
        self.becomes(rows, ("forget", 0, ((), (), (2,), ())), (SKIP,))
        self.refused(rows, ("forget", 1, ((), (), (2,), ())))

    def test_claims_have_places(self):
        rows = (("keep", 2, 5), ("minus", 2, 2), END)
        self.becomes(rows, ("forget", 0, ((), (), ())), (SKIP,))
        self.refused(rows, ("forget", 0, ((5,), (2,), ())))
        self.kinds = ("int",) * 9
        self.becomes((("keep", 8, 5), END), ("forget", 0, ((7,), (7,))), (SKIP,))
        self.refused((("keep", 8, 5), END), ("forget", 0, ((9,), ())))

    def test_other_rows(self):
        self.kinds = ("int",) * 10
        every = tuple(range(10))
        for row, *_ in ROWS:
            if row[0] != "keep":
                rows = (row[:-1] + (1,) if row[0] in ("jump", "zero") else row, END)
                self.refused(rows, ("forget", 0, (every, ())))


class Unreach(Steps):
    def test_rows_that_are_not_reached(self):
        for row, *_ in ROWS:
            self.becomes((("jump", 2), row, END), ("unreach", 1, (0, 2)), (SKIP,))
            self.becomes((END, row, END), ("unreach", 1, (0,)), (SKIP,))
            self.refused((("jump", 2), row, END), ("unreach", 1, (0,)))
            self.refused((("jump", 2), row, END), ("unreach", 2, (0, 2)))
            self.refused((("jump", 2), row, END), ("unreach", 0, (0, 2)))

    def test_not_the_last_row(self):
        self.refused((("stop",), END), ("unreach", 1, (0,)))
        self.refused((("stop",), ("const", 0, n(0))), ("unreach", 1, (0,)))
        self.becomes((("stop",), END, END), ("unreach", 1, (0,)), (SKIP,))

    def test_the_claim(self):
        rows = (("zero", 1, 3), ("stop",), ("const", 0, n(0)), END)
        self.becomes(rows, ("unreach", 2, (0, 1, 3)), (SKIP,))
        for claim in ((0, 1, 2, 3), (0, 3), (0, 1), (1, 3), (), (0, 1, 3, 3), ((),), None):
            self.refused(rows, ("unreach", 2, claim))
        self.refused(rows, ("unreach", 1, (0, 1, 3)))


class Squeeze(Steps):
    def test_a_skip(self):
        self.becomes((("minus", 1, 1), SKIP, ("text", 1, 1), END), ("squeeze", 1), ())
        self.becomes((SKIP, END), ("squeeze", 0), ())
        self.becomes((END, SKIP), ("squeeze", 1), ())
        self.becomes((SKIP,), ("squeeze", 0), ())

    def test_targets_before_at_and_behind(self):
        begin = tuple(("zero", 0, t) for t in range(1, 9))
        rows = begin[:4] + (SKIP,) + (("zero", 1, 6), ("zero", 1, 7), ("jump", 8), END)
        new = (("zero", 0, 1), ("zero", 0, 2), ("zero", 0, 3), ("zero", 0, 4), ("zero", 1, 5), ("zero", 1, 6), ("jump", 7), END)
        self.assertEqual(take_step((KINDS, rows), ("squeeze", 4)), (KINDS, new))
        rows = (("zero", 0, 2), ("zero", 0, 3), ("jump", 2), ("zero", 0, 1), ("zero", 0, 4), ("jump", 3), SKIP, END)
        new = (("zero", 0, 2), ("zero", 0, 3), ("jump", 2), ("zero", 0, 1), ("zero", 0, 4), ("jump", 3), END)
        self.assertEqual(take_step((KINDS, rows), ("squeeze", 6)), (KINDS, new))
        rows = (("jump", 1), ("jump", 3), ("zero", 7, 3), END)
        self.assertEqual(take_step((KINDS, rows), ("squeeze", 0)), (KINDS, (("jump", 2), ("zero", 7, 2), END)))

    def test_a_jump_to_the_next_row(self):
        self.becomes((("jump", 1), END), ("squeeze", 0), ())
        rows = (("zero", 0, 1), ("jump", 2), ("zero", 0, 3), END)
        self.assertEqual(take_step((KINDS, rows), ("squeeze", 1)), (KINDS, (("zero", 0, 1), ("zero", 0, 2), END)))

    def test_the_last_row_but_one(self):
        rows = (("zero", 0, 2), ("zero", 0, 3), SKIP, END)
        self.assertEqual(take_step((KINDS, rows), ("squeeze", 2)), (KINDS, (("zero", 0, 2), ("zero", 0, 2), END)))

    def test_other_rows(self):
        for row, *_ in ROWS:
            if row[0] != "skip":
                self.refused((SKIP, row[:-1] + (1,) if row[0] in ("jump", "zero") else row, END), ("squeeze", 1))
        for t in (0, 1, 3, 4):
            self.refused((SKIP, ("jump", t), SKIP, END), ("squeeze", 1))
        self.refused((SKIP, ("zero", 0, 2), END), ("squeeze", 1))
        self.refused((SKIP, ("arg", 0, 2), END), ("squeeze", 1))

    def test_the_kinds_stay(self):
        self.kinds = ()
        self.becomes((SKIP, END), ("squeeze", 0), ())


class NoSteps(Steps):
    ROWS = (("const", 1, n(0)), ("minus", 1, 1), ("zero", 1, 4), ("keep", 0, 1), SKIP, ("stop",), SKIP, END)

    def claims(self):
        code = (self.kinds, self.ROWS)
        return {"fold": strongest_known(code), "decide": strongest_known(code), "drop": strongest_needed(code),
                "forget": strongest_places(code), "unreach": strongest_reached(code)}

    def test_rows_out_of_bounds(self):
        for r in (-1, -2, -4, -8, 8, 9, 10000, 2 ** 70, None, True, False, "0", "", (), (1,)):
            for word, claim in self.claims().items():
                self.refused(self.ROWS, (word, r, claim))
            self.refused(self.ROWS, ("squeeze", r))

    def test_no_rows(self):
        for word in self.claims():
            for claim in ((), (0,), ((),)):
                self.refused((), (word, 0, claim))
        self.refused((), ("squeeze", 0))

    def test_other_forms(self):
        claims = self.claims()
        for thing in (None, True, False, 0, 1, "", "fold", "squeeze", (), ((),), ("fold",), ("squeeze",), ("squeeze", 4, ()), ("squeeze", 4, None),
                      ("Squeeze", 4), ("", 4), (None, 4), (True, 4), (0, 4), (("squeeze", 4),), ["squeeze", 4], ("skip", 4), ("squeeze", (4,)),
                      ("drop", 1), ("fold", 1), ("unreach", 6), (4, "squeeze"), ("squeeze", "4"), (("squeeze",), 4), ("nothing", 1, claims["fold"])):
            self.refused(self.ROWS, thing)
        for word, claim in claims.items():
            for r in range(len(self.ROWS)):
                for step in ((word, r), (word, r, claim, ()), (word, r, claim, None), (claim, r, word), (word, claim, r), [word, r, claim],
                             (word, r, None), (word, r, 0), (word, r, True), (word, r, ""), (word, r, "ab"), (word + " ", r, claim),
                             (word.upper(), r, claim), (word, str(r), claim)):
                    self.refused(self.ROWS, step)

    def test_claims_of_another_sort(self):
        rows = (("const", 1, n(0)), ("minus", 1, 1), END)
        self.becomes(rows, ("drop", 1, ((), (1,), ())), (SKIP,))
        self.refused(rows, ("drop", 1, (0, 1, 2)))
        self.refused(rows, ("drop", 1, ((), ((1, n(0)),), ())))
        self.refused(rows, ("fold", 1, ((), (1,), ())))
        self.refused((END, SKIP, END), ("unreach", 1, ((), (), ())))


class Drawn(unittest.TestCase):
    def test_steps_with_the_strongest_claims(self):
        counts = {}
        for seed in range(250):
            code, own = drawn_code(seed)
            for word in ("fold", "decide", "drop", "forget", "unreach", "squeeze"):
                claim = () if word == "squeeze" else (strongest(code, word),)
                for r in range(len(code[1])):
                    self.try_one(code, (word, r) + claim, own, counts, seed)
        self.assertGreater(min(counts.values()), 30, counts)
        self.assertEqual(len(counts), 12)

    def try_one(self, code, step, own, counts, seed):
        new = second_step(code, step)
        counts[step[0], new is None] = counts.get((step[0], new is None), 0) + 1
        if new is None:
            with self.assertRaises(BadStep):
                take_step(code, step)
            return
        self.assertEqual(repr(take_step(code, step)), repr(new))
        self.assertTrue(may_run(new, SCRIPT, own))
        views = drawn_views(seed % 7, 12)
        view = views[step[1] % len(views)]
        stores = drawn_store(SCRIPT, seed), drawn_store(SCRIPT, seed)
        self.assertEqual(run_code(code, view, stores[0]), run_code(new, view, stores[1]), (code, step))
        self.assertEqual(stores[0].doings(), stores[1].doings())

    def test_code_that_the_judge_would_not_take(self):
        counts = {}
        for seed in range(250):
            (kinds, rows), _ = drawn_code(seed)
            kinds += ("int",) * 2
            for k in range(3):
                r = seed * (k + 1) % len(rows)
                rows = rows[:r] + (drawn_row(seed + k, len(rows)),) + rows[r + 1:]
            kinds = ("int",) * 6
            for word in ("drop", "forget", "unreach", "squeeze"):
                claim = () if word == "squeeze" else (strongest((kinds, rows), word),)
                for r in range(len(rows)):
                    new = second_step((kinds, rows), (word, r) + claim)
                    counts[word, new is None] = counts.get((word, new is None), 0) + 1
                    if new is None:
                        with self.assertRaises(BadStep):
                            take_step((kinds, rows), (word, r) + claim)
                    else:
                        self.assertEqual(take_step((kinds, rows), (word, r) + claim), new)
        self.assertGreater(min(counts.values()), 30, counts)


if __name__ == "__main__":
    unittest.main()
