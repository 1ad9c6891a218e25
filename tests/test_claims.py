"""Points 6.7 and 6.8: the claims of steps."""

import random
import unittest

from drawn_code import drawn_code, drawn_row, operands, places_read, written
from second_claims import (place_written, second_known_holds, second_needed_holds, strongest_known, strongest_needed,
                           strongest_places, strongest_reached)
from stores import drawn_value

from tapline.steps import known_holds, needed_holds, places_hold, reached_holds

END, SKIP = ("end",), ("skip",)


def n(number):
    return ("int", number)


def s(text):
    return ("str", text)


class Claims(unittest.TestCase):
    check = None
    kinds = ()

    def yes(self, rows, claim):
        self.assertIs(type(self).check((self.kinds, rows), claim), True, (rows, claim))

    def no(self, rows, claim):
        self.assertIs(type(self).check((self.kinds, rows), claim), False, (rows, claim))


class Known(Claims):
    check = known_holds

    def after(self, rows, row, *pairs):
        """Rows, then a row, then a skip, at which these pairs are known; before the row all consts are known."""
        claim = ()
        known = {}
        for one in rows:
            claim += (tuple(sorted(known.items())),)
            known[one[1]] = one[2]
        return rows + (row, SKIP), claim + (tuple(sorted(known.items())), tuple(sorted(pairs)))

    def test_consts(self):
        rows = (("const", 2, n(5)), ("const", 1, s("a")), END)
        self.yes(rows, ((), ((2, n(5)),), ((1, s("a")), (2, n(5)))))
        self.yes(rows, ((), ((2, n(5)),), ((1, s("a")),)))
        self.yes(rows, ((), (), ((1, s("a")),)))
        self.yes(rows, ((), (), ()))
        self.no(rows, ((), (), ((1, s("a")), (2, n(5)))))
        self.no(rows, ((), ((2, n(6)),), ()))
        self.no(rows, ((), ((2, s("5")),), ()))
        self.no(rows, ((), ((3, n(5)),), ()))
        self.no(rows, ((), ((1, s("a")),), ()))
        self.no(rows, ((), ((2, n(5)),), ((2, s("a")),)))
        self.no(rows, (((2, n(5)),), ((2, n(5)),), ()))

    def test_a_register_that_is_written_again(self):
        rows = (("const", 2, n(5)), ("const", 2, n(6)), END)
        self.yes(rows, ((), ((2, n(5)),), ((2, n(6)),)))
        self.no(rows, ((), ((2, n(5)),), ((2, n(5)),)))
        for row in (("view", 2, "now"), ("arg", 2, 0), ("reg", 2, 0), ("get", 2, 0), ("global", 2, 0), ("thread", 2, 0), ("array", 2, 0, ()),
                    ("byte", 2, 2), ("spec", 2)):
            rows = (("const", 2, n(5)), row, END)
            self.yes(rows, ((), ((2, n(5)),), ()))
            self.no(rows, ((), ((2, n(5)),), ((2, n(5)),)))
        for row in (("keep", 0, 2), ("zero", 2, 2), ("setglobal", 0, 2), ("setthread", 0, 2), ("setarray", 0, (), 2), ("record", "say", ()),
                    ("put", 0, (), 2), ("speculate", 2), ("commit", 2), ("discard", 2), SKIP, ("jump", 2), ("view", 1, "now")):
            self.yes((("const", 2, n(5)), row, END), ((), ((2, n(5)),), ((2, n(5)),)))

    def test_results(self):
        two = (("const", 1, n(7)), ("const", 2, n(-2)))
        texts = (("const", 1, s("abc")), ("const", 2, s("b")), ("const", 3, n(1)), ("const", 4, n(2)))
        for rows, row, value in (
                (two, ("op", 1, "+", 1, 2), n(5)), (two, ("op", 1, "-", 1, 2), n(9)), (two, ("op", 1, "*", 1, 2), n(-14)),
                (two, ("op", 1, "/", 1, 2), n(-4)), (two, ("op", 1, "mod", 1, 2), n(-1)), (two, ("op", 1, "-", 2, 1), n(-9)),
                (two, ("compare", 1, "<", 2, 1), n(1)), (two, ("compare", 1, "==", 2, 1), n(0)), (two, ("minus", 1, 1), n(-7)),
                (two, ("not", 1, 1), n(0)), (two, ("text", 1, 2), s("-2")), (texts, ("len", 1, 1), n(3)), (texts, ("cat", 1, 1, 2), s("abcb")),
                (texts, ("sub", 1, 1, 3, 4), s("bc")), (texts, ("sub", 1, 1, 4, 3), s("c")), (texts, ("compare", 1, ">=", 1, 2), n(0)),
                (texts, ("compare", 1, "!=", 1, 1), n(0))):
            self.yes(*self.after(rows, row, (1, value)))
            self.no(*self.after(rows, row, (1, (value[0], value[1] + type(value[1])(1)))))
            self.no(*self.after(rows, row, (1, rows[0][2])))
            self.yes(*self.after(rows, row))
            self.yes(*self.after(rows, row[:1] + (6,) + row[2:], (6, value), (1, rows[0][2])))
            self.yes(*self.after(rows, row, (1, value), (2, rows[1][2])))

    def test_operands_that_are_not_known(self):
        rows = (("const", 1, n(7)), ("const", 2, n(2)), ("op", 3, "+", 1, 2), END)
        both = ((1, n(7)), (2, n(2)))
        self.yes(rows, ((), both[:1], both, ((3, n(9)),)))
        self.no(rows, ((), (), both[1:], ((3, n(9)),)))
        self.no(rows, ((), both[:1], both[:1], ((3, n(9)),)))
        self.no(rows, ((), (), (), ((3, n(9)),)))
        self.yes(rows, ((), both[:1], both[:1], ((1, n(7)),)))

    def test_faults_and_wrong_kinds(self):
        rows = (("const", 1, n(7)), ("const", 2, n(0)), ("const", 3, s("x" * 17)), ("const", 4, s("")))
        for row in (("op", 5, "/", 1, 2), ("op", 5, "mod", 1, 2), ("cat", 5, 3, 3), ("op", 5, "+", 1, 4), ("op", 5, "*", 4, 4), ("minus", 5, 4),
                    ("not", 5, 4), ("len", 5, 1), ("cat", 5, 1, 3), ("cat", 5, 3, 1), ("sub", 5, 1, 1, 1), ("sub", 5, 3, 3, 1),
                    ("sub", 5, 3, 1, 3), ("text", 5, 3), ("compare", 5, "==", 1, 3), ("compare", 5, "<", 4, 2), ("compare", 5, "!=", 2, 4)):
            for value in (n(0), n(1), n(7), s(""), s("x" * 17), s("x" * 34), s("7"), s("0")):
                self.no(*self.after(rows, row, (5, value)))
            self.yes(*self.after(rows, row, (1, n(7)), (2, n(0)), (3, s("x" * 17)), (4, s(""))))
        self.yes(*self.after(rows, ("cat", 5, 3, 4), (5, s("x" * 17))))
        self.yes(*self.after(rows, ("sub", 5, 3, 2, 1), (5, s("x" * 7))))

    def test_ways_that_meet(self):
        rows = (("const", 1, n(0)), ("zero", 1, 4), ("const", 2, n(5)), ("jump", 5), ("const", 2, n(5)), END)
        five = (2, n(5))
        self.yes(rows, ((), (), (), (five,), (), (five,)))
        self.no(rows, ((), (), (), (five,), (five,), (five,)))
        other = rows[:4] + (("const", 2, n(6)), END)
        self.yes(other, ((), (), (), (five,), (), ()))
        self.no(other, ((), (), (), (five,), (), (five,)))
        self.no(other, ((), (), (), (five,), (), ((2, n(6)),)))
        nought = (1, n(0))
        self.yes(rows, ((), (nought,), (nought,), (nought, five), (nought,), (nought, five)))

    def test_a_zero_tells_nothing(self):
        rows = (("arg", 1, 0), ("zero", 1, 3), SKIP, END)
        self.no(rows, ((), (), (), ((1, n(0)),)))

    def test_ways_back(self):
        rows = (("const", 1, n(3)), ("arg", 2, 0), ("zero", 2, 1), END)
        self.yes(rows, ((), ((1, n(3)),), ((1, n(3)),), ((1, n(3)),)))
        rows = (("const", 1, n(3)), ("minus", 1, 1), ("zero", 1, 1), END)
        self.no(rows, ((), ((1, n(3)),), ((1, n(-3)),), ()))
        self.yes(rows, ((), (), (), ()))
        self.no((("arg", 1, 0), ("jump", 0)), (((1, n(0)),), ()))

    def test_rows_that_cannot_be_reached(self):
        rows = (("jump", 2), SKIP, END)
        seven = ((1, n(7)),)
        self.yes(rows, ((), seven, ()))
        self.yes(rows, ((), ((1, n(7)), (3, s("any"))), ()))
        self.no(rows, ((), seven, seven))
        rows = (("const", 1, n(7)), ("jump", 3), SKIP, END)
        self.yes(rows, ((), seven, seven, seven))
        self.no(rows, ((), seven, (), seven))
        self.no(rows, ((), seven, ((1, n(8)),), seven))

    def test_registers_and_values(self):
        rows = (("jump", 2), SKIP, END)
        for pair in ((0, n(0)), (7, n(0)), (3, n(2 ** 63 - 1)), (3, n(-2 ** 63)), (3, s("")), (3, s("x" * 32))):
            self.yes(rows, ((), (pair,), ()))
        for pair in ((8, n(0)), (-1, n(0)), (True, n(0)), (None, n(0)), ("1", n(0)), ((), n(0)), (3, n(2 ** 63)), (3, n(-2 ** 63 - 1)), (3, n(True)),
                     (3, n(None)), (3, s("x" * 33)), (3, s("\"")), (3, s(5)), (3, ("bool", 1)), (3, 5), (3, None), (3, ()), (3, ("int",)),
                     (3,), (3, n(0), 0), (), 3, None, True, "ab", "", [3, n(0)]):
            self.no(rows, ((), (pair,), ()))
        self.no(rows, ((), ((3, n(0)), (2, n(0))), ()))
        self.no(rows, ((), ((3, n(0)), (3, n(0))), ()))
        self.no(rows, ((), ((2, n(0)), (2, n(1))), ()))
        self.yes(rows, ((), ((2, n(0)), (3, n(1)), (7, s("x"))), ()))
        self.no(rows, ((), ((2, n(0)), (7, n(1)), (3, s("x"))), ()))

    def test_truths_are_no_numbers(self):
        rows = (("const", 1, n(1)), ("const", 0, n(0)), END)
        self.yes(rows, ((), ((1, n(1)),), ((0, n(0)), (1, n(1)))))
        self.no(rows, ((), ((1, n(True)),), ()))
        self.no(rows, ((), ((True, n(1)),), ()))
        self.no(rows, ((), (), ((False, n(0)),)))
        self.no(rows, ((), (), ((0, n(False)),)))

    def test_other_forms(self):
        rows = (SKIP, END)
        self.yes(rows, ((), ()))
        for claim in ((), ((),), ((), (), ()), None, True, 0, "", "ab", ((), None), ((), 0), ((), ""), ((), "ab"), ((), True), [(), ()],
                      ((), []), (0, 1), (None, ()), ("", "")):
            self.no(rows, claim)
        self.yes((), ())
        self.no((), ((),))
        self.no((), None)

    def test_drawn_claims_against_the_second_check(self):
        counts = {True: 0, False: 0}
        for seed in range(900):
            chance = random.Random(seed)
            code, _ = drawn_code(seed)
            rows = code[1]
            if seed % 3 == 0:
                r = chance.randrange(len(rows))
                rows = rows[:r] + (drawn_row(chance.random(), len(rows)),) + rows[r + 1:]
            claim = list(strongest_known((code[0], rows), seed % 2 == 0))
            for _ in range(chance.randrange(3)):
                r = chance.randrange(len(rows))
                member = dict(claim[r])
                a = chance.choice(sorted(member) or [0]) if chance.random() < 0.7 else chance.randrange(8)
                if chance.random() < 0.6:
                    member.pop(a, None)
                else:
                    member[a] = chance.choice([drawn_value(chance, "int"), drawn_value(chance, "str")] + [value for _, value in sum(claim, ())])
                claim[r] = tuple(sorted(member.items()))
            holds = second_known_holds((code[0], rows), tuple(claim))
            self.assertIs(known_holds((code[0], rows), tuple(claim)), holds, (seed, rows, claim))
            counts[holds] += 1
        self.assertGreater(min(counts.values()), 100, counts)


class NeededClaims(Claims):
    """What holds for registers and for places; some of the rows differ."""

    def members(self, *members):
        return tuple(members)

    def forms(self, rows, bound):
        """The forms of claims for rows that need nothing."""
        empty = ((),) * len(rows)
        self.yes(rows, empty)
        for member in ((0,), (bound - 1,), tuple(range(bound)), (0, bound - 1)):
            self.yes(rows, (member,) + empty[1:])
            self.yes(rows, (member,) * len(rows))
        for member in ((bound,), (-1,), (0, bound), (True,), (False,), (None,), ("0",), ((),), (1, 0), (1, 1), (0, 0), (0, 2, 1), 0, None, True,
                       "", "0", [0]):
            self.no(rows, (member,) + empty[1:])
        for claim in (empty[1:], empty + ((),), (), None, True, 0, "", "ab", list(empty), empty[1:] + (None,), empty[1:] + (0,), empty[1:] + ("",)):
            self.no(rows, claim)
        self.yes((), ())
        self.no((), ((),))


class NeededRegisters(NeededClaims):
    check = needed_holds

    def test_forms(self):
        self.forms((SKIP, SKIP, END), 8)

    def test_what_each_row_reads(self):
        for row, registers in ((("op", 7, "+", 5, 3), (3, 5)), (("compare", 7, "<", 1, 1), (1,)), (("minus", 7, 2), (2,)), (("not", 7, 2), (2,)),
                               (("len", 7, 2), (2,)), (("cat", 7, 4, 0), (0, 4)), (("sub", 7, 6, 2, 4), (2, 4, 6)), (("text", 7, 2), (2,)),
                               (("byte", 7, 2), (2,)), (("zero", 3, 1), (3,)), (("keep", 0, 6), (6,)), (("setglobal", 0, 6), (6,)),
                               (("setthread", 0, 6), (6,)), (("setarray", 0, (1,), 6), (6,)), (("put", 0, (1,), 6), (6,)),
                               (("speculate", 6), (6,)), (("commit", 6), (6,)), (("discard", 6), (6,)), (("minus", 2, 2), (2,)),
                               (("const", 7, n(0)), ()), (("view", 7, "now"), ()), (("arg", 7, 1), ()), (("reg", 7, 1), ()), (("get", 7, 1), ()),
                               (("global", 7, 1), ()), (("thread", 7, 1), ()), (("array", 7, 1, (2,)), ()), (("spec", 7), ()), (("jump", 1), ()),
                               (("record", "say", (2,)), ()), (("put", 0, (1,), -1), ()), (("stop",), ()), (SKIP, ()), (END, ())):
            rows = (row, END)
            self.yes(rows, (registers, ()))
            self.yes(rows, (tuple(range(8)), ()))
            for a in registers:
                self.no(rows, (tuple(b for b in registers if b != a), ()))
            self.yes((END, row), ((), registers))

    def test_what_later_rows_need(self):
        rows = (("const", 1, n(0)), ("view", 2, "now"), ("op", 3, "+", 1, 2), END)
        self.yes(rows, ((), (1,), (1, 2), ()))
        self.no(rows, ((), (), (1, 2), ()))
        self.no(rows, ((), (2,), (1, 2), ()))
        self.no(rows, ((), (1,), (2,), ()))
        self.yes(rows, ((2,), (1, 2), (1, 2), ()))
        self.no(rows, ((), (1, 2), (1, 2), ()))
        self.no(rows, ((), (1,), (1, 2), (5,)))
        self.yes(rows, ((5,), (1, 5), (1, 2, 5), (5,)))
        self.yes(rows, ((), (1,), (1, 2), (3,)))

    def test_ways(self):
        rows = (("zero", 0, 3), ("minus", 1, 1), END, ("minus", 2, 2), END)
        self.yes(rows, ((0, 1, 2), (1,), (), (2,), ()))
        self.no(rows, ((0, 1), (1,), (), (2,), ()))
        self.no(rows, ((0, 2), (1,), (), (2,), ()))
        self.no(rows, ((1, 2), (1,), (), (2,), ()))
        rows = (("jump", 2), ("minus", 1, 1), ("minus", 2, 2), ("stop",), ("minus", 3, 3), END)
        self.yes(rows, ((2,), (1, 2), (2,), (), (3,), ()))
        self.no(rows, ((2,), (1,), (2,), (), (3,), ()))
        self.no(rows, ((2,), (2,), (2,), (), (3,), ()))
        self.no(rows, ((), (1, 2), (2,), (), (3,), ()))
        self.no(rows, ((2,), (1, 2), (2,), (), (), ()))

    def test_ways_back(self):
        rows = (("zero", 0, 2), SKIP, ("minus", 4, 5), ("zero", 4, 0), END)
        self.yes(rows, ((0, 5), (0, 5), (0, 5), (0, 4, 5), ()))
        self.no(rows, ((0, 5), (0, 5), (0, 5), (4,), ()))

    def test_places_are_something_else(self):
        self.yes((("get", 1, 5), ("record", "say", (4,)), END), ((), (), ()))
        rows = (("keep", 5, 1), ("minus", 5, 5), END)
        self.yes(rows, ((1, 5), (5,), ()))
        self.no(rows, ((1,), (5,), ()))


class NeededPlaces(NeededClaims):
    check = places_hold
    kinds = ("int", "str", "int")

    def test_forms(self):
        self.forms((SKIP, SKIP, END), 3)
        self.kinds = ("int",) * 12
        self.forms((SKIP, SKIP, END), 12)

    def test_no_places(self):
        self.kinds = ()
        self.yes((SKIP, END), ((), ()))
        self.no((SKIP, END), ((0,), ()))

    def test_what_each_row_reads(self):
        for row, places in ((("get", 7, 2), (2,)), (("array", 7, 0, (2, 0)), (0, 2)), (("setarray", 0, (1, 1), 5), (1,)),
                            (("put", 0, (2, 1), 5), (1, 2)), (("put", 0, (2,), -1), (2,)), (("record", "say", (1, 2, 0)), (0, 1, 2)),
                            (("record", "say", ()), ()), (("keep", 1, 2), ()), (("minus", 1, 2), ()), (("zero", 2, 1), ()), (SKIP, ())):
            rows = (row, END)
            self.yes(rows, (places, ()))
            self.yes(rows, ((0, 1, 2), ()))
            for place in places:
                self.no(rows, (tuple(other for other in places if other != place), ()))

    def test_what_later_rows_need(self):
        rows = (("keep", 0, 7), ("keep", 1, 7), ("record", "say", (0, 1)), END)
        self.yes(rows, ((), (0,), (0, 1), ()))
        self.no(rows, ((), (), (0, 1), ()))
        self.no(rows, ((), (1,), (0, 1), ()))
        self.no(rows, ((), (0, 1), (0, 1), ()))
        self.yes(rows, ((1,), (0, 1), (0, 1), ()))
        self.no(rows, ((), (0,), (0, 1), (2,)))
        self.yes(rows, ((), (0,), (0, 1), ()))

    def test_registers_are_something_else(self):
        rows = (("get", 1, 1), ("const", 0, n(4)), ("record", "say", (0,)), END)
        self.yes(rows, ((0, 1), (0,), (0,), ()))
        self.no(rows, ((1,), (0,), (0,), ()))
        self.no(rows, ((1,), (), (0,), ()))


class Needed(unittest.TestCase):
    def test_drawn_claims_against_the_second_check(self):
        counts = {True: 0, False: 0}
        for seed in range(900):
            chance = random.Random(seed)
            code, _ = drawn_code(seed)
            rows = code[1]
            if seed % 3 == 0:
                r = chance.randrange(len(rows))
                rows = rows[:r] + (drawn_row(chance.random(), len(rows)),) + rows[r + 1:]
            kinds = code[0] + ("int",) * (max([place for row in rows for place in places_read(row)], default=0) + 1)
            for strongest, reads, writes, check, bound in ((strongest_needed, operands, written, needed_holds, 8),
                                                           (strongest_places, places_read, place_written, places_hold, len(kinds))):
                claim = [set(member) for member in strongest((kinds, rows))]
                for _ in range(chance.randrange(3)):
                    claim[chance.randrange(len(rows))] ^= {chance.randrange(bound)}
                claim = tuple(tuple(sorted(member)) for member in claim)
                holds = second_needed_holds(rows, claim, reads, writes)
                self.assertIs(check((kinds, rows), claim), holds, (seed, rows, claim))
                counts[holds] += 1
        self.assertGreater(min(counts.values()), 100, counts)


class Reached(Claims):
    check = reached_holds

    def test_plain_rows(self):
        rows = (SKIP, ("const", 0, n(1)), END, SKIP, END)
        self.yes(rows, (0, 1, 2))
        self.yes(rows, (0, 1, 2, 4))
        self.yes(rows, (0, 1, 2, 3, 4))
        for claim in ((0, 1), (0,), (0, 2), (1, 2), (), (0, 1, 2, 3), (0, 1, 2, 4, 5), (0, 1, 2, 2), (0, 2, 1), (-1, 0, 1, 2), (0, 1, 2, 99)):
            self.no(rows, claim)

    def test_ways(self):
        rows = (("zero", 0, 3), ("jump", 4), SKIP, ("stop",), END)
        self.yes(rows, (0, 1, 3, 4))
        self.yes(rows, (0, 1, 2, 3, 4))
        for claim in ((0, 1, 4), (0, 3), (0, 1, 3), (0, 3, 4), (1, 3, 4)):
            self.no(rows, claim)
        self.yes((("zero", 0, 1), END), (0, 1))
        self.yes((("jump", 2), ("skip",), END), (0, 2))
        self.no((("jump", 2), ("skip",), END), (0,))
        self.no((("jump", 2), ("skip",), END), (0, 1))

    def test_ways_back_and_beyond(self):
        rows = (SKIP, SKIP, ("zero", 0, 1), ("jump", 9))
        self.yes(rows, (0, 1, 2, 3))
        self.no(rows, (0, 1, 2))
        self.yes((("jump", 1), ("jump", 0)), (0, 1))
        self.no((("jump", 1), ("jump", 0)), (0,))

    def test_other_forms(self):
        for claim in (None, True, 0, "", "0", [0], ((),), (False,), (0, True), (None,), ("0",), ((0,),), (0, None), (0, "1"), (0, ())):
            self.no((SKIP, END), claim)
        for claim in ((), (0,), ((),), None):
            self.no((), claim)
        self.yes((END,), (0,))

    def test_drawn_claims(self):
        for seed in range(200):
            chance = random.Random(seed)
            code, _ = drawn_code(seed)
            claim = strongest_reached(code)
            self.assertIs(reached_holds(code, claim), True)
            self.assertIs(reached_holds(code, tuple(range(len(code[1])))), True)
            without = claim[:chance.randrange(len(claim))]
            self.assertIs(reached_holds(code, without + claim[len(without) + 1:]), False)


if __name__ == "__main__":
    unittest.main()
