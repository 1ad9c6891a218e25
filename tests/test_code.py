"""Points 6.1, 6.8 and 6.13: the form of code, and what its rows have to do with."""

import unittest

from drawn_scripts import drawn_script

from tapline.code import WORDS, following, is_code, reads, reads_places, writes
from tapline.compile_clause import compile_clause

LEAST, GREATEST = -2 ** 63, 2 ** 63 - 1
ONE = ("int", 1)

# A row of each word, and what it reads, the places it reads, and what it writes.
ROWS = (
    (("const", 2, ("str", "a b")), (), (), 2),
    (("view", 3, "now"), (), (), 3),
    (("arg", 4, 3), (), (), 4),
    (("reg", 5, 0), (), (), 5),
    (("get", 6, 9), (), (9,), 6),
    (("keep", 9, 6), (6,), (), -1),
    (("global", 1, 7), (), (), 1),
    (("thread", 1, 7), (), (), 1),
    (("array", 1, 7, (5, 2, 4)), (), (2, 4, 5), 1),
    (("op", 1, "mod", 5, 3), (3, 5), (), 1),
    (("compare", 1, "<=", 5, 3), (3, 5), (), 1),
    (("minus", 1, 2), (2,), (), 1),
    (("not", 1, 2), (2,), (), 1),
    (("len", 1, 2), (2,), (), 1),
    (("cat", 1, 7, 0), (0, 7), (), 1),
    (("sub", 1, 7, 0, 4), (0, 4, 7), (), 1),
    (("text", 1, 2), (2,), (), 1),
    (("byte", 1, 2), (2,), (), 1),
    (("spec", 0), (), (), 0),
    (("jump", 1), (), (), -1),
    (("zero", 3, 1), (3,), (), -1),
    (("setglobal", 1, 2), (2,), (), -1),
    (("setthread", 1, 2), (2,), (), -1),
    (("setarray", 1, (6, 3), 2), (2,), (3, 6), -1),
    (("record", "say", (8, 1, 4, 0, 3)), (), (0, 1, 3, 4, 8), -1),
    (("put", 1, (3, 2), 5), (5,), (2, 3), -1),
    (("speculate", 1), (1,), (), -1),
    (("commit", 1), (1,), (), -1),
    (("discard", 1), (1,), (), -1),
    (("stop",), (), (), -1),
    (("skip",), (), (), -1),
    (("end",), (), (), -1),
)
# What may stand at each place of the rows above.
PARTS = {
    "const": ("register", "value"), "view": ("register", "view"), "arg": ("register", "four"), "reg": ("register", "four"),
    "get": ("register", "index"), "keep": ("index", "register"), "global": ("register", "index"),
    "thread": ("register", "index"), "array": ("register", "index", "keys"), "op": ("register", "sign", "register", "register"),
    "compare": ("register", "order", "register", "register"), "minus": ("register",) * 2, "not": ("register",) * 2,
    "len": ("register",) * 2, "cat": ("register",) * 3, "sub": ("register",) * 4, "text": ("register",) * 2,
    "byte": ("register",) * 2, "spec": ("register",), "jump": ("index",), "zero": ("register", "index"),
    "setglobal": ("index", "register"), "setthread": ("index", "register"), "setarray": ("index", "keys", "register"),
    "record": ("sort", "places"), "put": ("index", "keys", "optional"), "speculate": ("register",), "commit": ("register",),
    "discard": ("register",), "stop": (), "skip": (), "end": (),
}
ODD = (None, True, False, "", "0", "x", (), (1,), "now", ("int", 0), ("int", 1), 2 ** 70, -2)
GOOD = {
    "register": (0, 1, 7), "index": (0, 1, 9999, 10000), "four": (0, 1, 2, 3), "optional": (-1, 0, 7),
    "keys": ((), (0,), (5, 5), (0, 10000, 2)), "places": ((), (3,), (10000,) * 20),
    "view": ("now", "cpu", "pid", "tid", "at", "name"), "sign": ("+", "-", "*", "/", "mod"),
    "order": ("==", "!=", "<", "<=", ">", ">="), "sort": ("trace", "say"),
    "value": (("int", 0), ("int", LEAST), ("int", GREATEST), ("str", ""), ("str", "x" * 32), ("str", "it's #1 ~ !"),
              ("str", "&|[]{}^_`@?;:.,+-*/<>=$()")),
}
BAD = {
    "register": (-1, 8) + ODD, "index": (-1, 10001) + ODD, "four": (-1, 4) + ODD, "optional": (-2, 8) + ODD,
    "keys": ((0, 1, 2, 3), (-1,), (10001,), (0, 10001), (True,), (None,), ("0",), ((),), 0, None, True, "", "0"),
    "places": ((-1,), (10001,), (0, 10001), (True,), (None,), (3, "1"), ((),), 0, None, False, "", "1"),
    "view": ("", "arg0", "Now", "now ", "spec", None, True, 0, ()), "sign": ("", "==", "%", "<", "mod ", None, True, 0, ()),
    "order": ("", "=", "+", "<>", "mod", None, True, 0, ()), "sort": ("", "Trace", "record", "fault", None, True, 0, ()),
    "value": (("int", LEAST - 1), ("int", GREATEST + 1), ("int", True), ("int", False), ("int", "1"), ("int", None), ("int", ()),
              ("str", "x" * 33), ("str", "\""), ("str", "\n"), ("str", "%"), ("str", "\\"), ("str", "\t"), ("str", "\x7f"),
              ("str", "\u00e9"), ("str", 1), ("str", None), ("str", ("a",)), ("bool", 1), ("", 0), (1, 1), ("bool", "x"), ("Str", "a"), (None, "a"), (True, "a"), ("int",), ("str",),
              ("int", 1, 1), (), 1, "int", None, True, ("Int", 1), (("int", 1),)),
}


def code(*rows):
    return ((), rows)


class Words(unittest.TestCase):
    def test_their_order(self):
        self.assertEqual(WORDS, tuple(
            "const view arg reg get keep global thread array op compare minus not len cat sub text byte spec jump zero "
            "setglobal setthread setarray record put speculate commit discard stop skip end".split()))
        self.assertEqual(WORDS, tuple(row[0] for row, *_ in ROWS))


class Form(unittest.TestCase):
    def yes(self, thing):
        self.assertIs(is_code(thing), True, thing)

    def no(self, thing):
        self.assertIs(is_code(thing), False, thing)

    def test_each_row(self):
        for row, *_ in ROWS:
            self.yes(code(row))
            self.no(code(row + (0,)))
            self.no(code(row + (None,)))
            self.no(code(list(row)))
            self.no(code((row,)))
            if len(row) > 1:
                self.no(code(row[:-1]))
                self.no(code(row[:1]))
            for word in ("", "Const", "nothing", row[0] + " ", None, True, 0, (), (row[0],), row):
                self.no(code((word,) + row[1:]))
        self.yes((("int", "str"), tuple(row for row, *_ in ROWS)))

    def test_each_part_of_each_row(self):
        for row, *_ in ROWS:
            self.assertEqual(len(PARTS[row[0]]), len(row) - 1)
            for k, part in enumerate(PARTS[row[0]], 1):
                for thing in GOOD[part]:
                    self.yes(code(row[:k] + (thing,) + row[k + 1:]))
                for thing in BAD[part]:
                    self.no(code(row[:k] + (thing,) + row[k + 1:]))

    def test_one_wrong_row_is_enough(self):
        self.no(code(("skip",), ("get", 8, 0), ("end",)))
        self.no(code(("skip",), ("end",), ()))
        self.no(code(("skip",), None))
        self.no(code(("skip",), "end"))

    def test_kinds(self):
        for kinds in ((), ("int",), ("str",), ("int", "str", "int"), ("int",) * 20):
            self.yes((kinds, (("end",),)))
        for kinds in (("bool",), ("int", ""), (None,), (1,), ("int", ("str",)), ("int", True), "int", "", None, 0, True, [], ["int"]):
            self.no((kinds, (("end",),)))

    def test_rows_that_are_no_tuple(self):
        for rows in (None, "", "end", 0, True, [], [("end",)], ("end",), (1,)):
            self.no(((), rows))

    def test_without_places_or_rows(self):
        self.yes(((), ()))
        self.yes((("int",), ()))

    def test_places_that_the_code_does_not_have(self):
        self.yes(code(("get", 0, 0), ("jump", 17)))

    def test_things_that_are_no_pair(self):
        for thing in (None, True, False, 0, 1, -1, "", "code", (), ((),), ((), (), ()), (((), ()),), [(), ()]):
            self.no(thing)

    def test_what_is_compiled(self):
        for seed in range(40):
            script = drawn_script(seed)
            for index in range(len(script[4])):
                self.yes(compile_clause(script, index))


class Rows(unittest.TestCase):
    def test_reads_and_writes(self):
        for row, registers, places, written in ROWS:
            self.assertEqual(reads(row), registers)
            self.assertEqual(reads_places(row), places)
            self.assertEqual(writes(row), written)
            self.assertIs(type(writes(row)), int)

    def test_what_is_named_twice(self):
        for row, registers in ((("op", 3, "+", 3, 3), (3,)), (("compare", 0, "<", 4, 4), (4,)), (("cat", 1, 1, 1), (1,)),
                               (("sub", 1, 6, 2, 6), (2, 6)), (("sub", 0, 5, 5, 5), (5,)), (("minus", 2, 2), (2,))):
            self.assertEqual(reads(row), registers)
            self.assertEqual(writes(row), row[1])
        for row, places in ((("array", 0, 0, (4, 4)), (4,)), (("setarray", 0, (4, 1, 4), 0), (1, 4)), (("put", 0, (2, 2), -1), (2,)),
                            (("record", "trace", (3, 1, 3, 1, 0)), (0, 1, 3))):
            self.assertEqual(reads_places(row), places)

    def test_none(self):
        self.assertEqual(reads(("put", 0, (3,), -1)), ())
        self.assertEqual(reads(("put", 0, (3,), 0)), (0,))
        for row in (("array", 0, 0, ()), ("record", "say", ()), ("put", 0, (), 4), ("setarray", 0, (), 4)):
            self.assertEqual(reads_places(row), ())


class Following(unittest.TestCase):
    def test_each_row(self):
        filler = ("skip",)
        for row, *_ in ROWS:
            rows = (filler, filler, row, filler, filler, ("end",))
            expected = (3,)
            if row[0] in ("stop", "end"):
                expected = ()
            if row[0] == "jump":
                expected = (1,)
            if row[0] == "zero":
                expected = (1, 3)
            self.assertEqual(following(code(*rows), 2), expected, row)

    def test_targets(self):
        for target, coming in ((0, (0, 2)), (1, (1, 2)), (2, (2,)), (3, (2, 3)), (4, (2,)), (99, (2,))):
            rows = (("skip",), ("zero", 0, target), ("skip",), ("end",))
            self.assertEqual(following(code(*rows), 1), coming)
        for target, coming in ((0, (0,)), (1, (1,)), (2, (2,)), (3, (3,)), (4, ()), (10000, ())):
            rows = (("skip",), ("jump", target), ("skip",), ("end",))
            self.assertEqual(following(code(*rows), 1), coming)

    def test_at_the_end_and_beyond(self):
        rows = (("skip",), ("skip",))
        self.assertEqual([following(code(*rows), r) for r in (-2, -1, 0, 1, 2, 99)], [(), (), (1,), (), (), ()])
        self.assertEqual(following(code(("zero", 0, 0)), 0), (0,))
        self.assertEqual(following(code(("zero", 0, 1)), 0), ())
        self.assertEqual(following(code(("end",)), 0), ())
        self.assertEqual(following(code(), 0), ())


if __name__ == "__main__":
    unittest.main()
