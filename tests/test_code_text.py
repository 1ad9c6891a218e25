"""Point 6.12: code as a text."""

import random
import unittest

from drawn_code import drawn_code
from drawn_scripts import drawn_script
from second_text import first_wrong
from test_code import ROWS

from tapline.code_text import read_text, write_text
from tapline.compile_clause import compile_clause
from tapline.errors import BadText
from tapline.optimise import optimise

# Each row, and how it is written.
WRITTEN = (
    (("const", 2, ("str", "a b")), "const 2 str 3 'a b"),
    (("const", 7, ("str", "")), "const 7 str 0 '"),
    (("const", 0, ("str", "'")), "const 0 str 1 ''"),
    (("const", 0, ("str", " '# it's  # ' ")), "const 0 str 14 ' '# it's  # ' "),
    (("const", 0, ("str", "   ")), "const 0 str 3 '   "),
    (("const", 0, ("str", "x" * 32)), "const 0 str 32 '" + "x" * 32),
    (("const", 0, ("str", "int 5")), "const 0 str 5 'int 5"),
    (("const", 0, ("int", 0)), "const 0 int 0"),
    (("const", 0, ("int", -1)), "const 0 int -1"),
    (("const", 0, ("int", 2 ** 63 - 1)), "const 0 int 9223372036854775807"),
    (("const", 0, ("int", -2 ** 63)), "const 0 int -9223372036854775808"),
    (("view", 3, "now"), "view 3 now"), (("view", 3, "name"), "view 3 name"), (("view", 0, "cpu"), "view 0 cpu"),
    (("arg", 4, 3), "arg 4 3"), (("reg", 5, 0), "reg 5 0"), (("get", 6, 9), "get 6 9"), (("keep", 12, 6), "keep 12 6"),
    (("global", 1, 20000), "global 1 20000"), (("thread", 1, 7), "thread 1 7"),
    (("array", 1, 7, (5, 2, 4)), "array 1 7 3 5 2 4"), (("array", 1, 7, ()), "array 1 7 0"), (("array", 1, 7, (0,) * 5), "array 1 7 5 0 0 0 0 0"),
    (("op", 1, "mod", 5, 3), "op 1 mod 5 3"), (("op", 1, "-", 5, 3), "op 1 - 5 3"), (("compare", 1, "<=", 5, 3), "compare 1 <= 5 3"),
    (("minus", 1, 2), "minus 1 2"), (("not", 1, 2), "not 1 2"), (("len", 1, 2), "len 1 2"), (("cat", 1, 7, 0), "cat 1 7 0"),
    (("sub", 1, 7, 0, 4), "sub 1 7 0 4"), (("text", 1, 2), "text 1 2"), (("byte", 1, 2), "byte 1 2"), (("spec", 0), "spec 0"),
    (("jump", 1), "jump 1"), (("jump", 123456789012345678901234567890), "jump 123456789012345678901234567890"), (("zero", 3, 100), "zero 3 100"),
    (("setglobal", 1, 2), "setglobal 1 2"), (("setthread", 10, 2), "setthread 10 2"), (("setarray", 1, (6, 3), 2), "setarray 1 2 6 3 2"),
    (("setarray", 1, (), 2), "setarray 1 0 2"), (("record", "say", (8, 10, 0)), "record say 3 8 10 0"), (("record", "trace", ()), "record trace 0"),
    (("put", 1, (3, 2), 5), "put 1 2 3 2 5"), (("put", 1, (), 5), "put 1 0 5"), (("put", 0, (3,), -1), "put 0 1 3 -1"), (("put", 0, (), -1), "put 0 0 -1"),
    (("speculate", 1), "speculate 1"), (("commit", 1), "commit 1"), (("discard", 1), "discard 1"), (("stop",), "stop"), (("skip",), "skip"),
    (("end",), "end"),
)


class Texts(unittest.TestCase):
    def both(self, code, text):
        self.assertEqual(write_text(code), text)
        self.assertEqual(repr(read_text(text)), repr(code))

    def bad(self, text, row):
        with self.assertRaises(BadText, msg=repr(text)) as caught:
            read_text(text)
        self.assertEqual(caught.exception.row, row, repr(text))


class Written(Texts):
    def test_each_row(self):
        for row, text in WRITTEN:
            self.both(((), (row,)), text + "\n")
        self.assertEqual({row[0] for row, _ in WRITTEN}, {row[0] for row, *_ in ROWS})

    def test_all_rows(self):
        rows = tuple(row for row, _ in WRITTEN)
        kinds = ("int", "str", "str", "int")
        self.both((kinds, rows), "place int\nplace str\nplace str\nplace int\n" + "".join(text + "\n" for _, text in WRITTEN))

    def test_without_places_or_rows(self):
        self.both(((), ()), "")
        self.both((("str",), ()), "place str\n")
        self.both(((), (("end",),)), "end\n")

    def test_each_character_of_texts(self):
        for k in range(32, 127):
            if chr(k) not in "%\\\"":
                self.both(((), (("const", 0, ("str", chr(k) * 2)),)), f"const 0 str 2 '{chr(k)}{chr(k)}\n")

    def test_very_long_numbers(self):
        for digits in ("1" + "0" * 18, "9" * 18, "9" * 37, "1" + "0" * 36, "10" * 40, "7" * 5000):
            text = f"jump {digits}\n"
            self.assertEqual(write_text(read_text(text)), text)
        self.assertEqual(read_text("jump " + "10" * 40 + "\n"), ((), (("jump", int("10" * 40)),)))
        self.bad("const 0 int " + "9" * 5000 + "\n", 1)
        self.bad("const " + "9" * 5000 + " int 0\n", 1)

    def test_what_is_compiled(self):
        for seed in range(40):
            script = drawn_script(seed)
            for index in range(len(script[4])):
                code = compile_clause(script, index)
                for one in (code, optimise(code)[0]):
                    self.assertEqual(repr(read_text(write_text(one))), repr(one))


class Wrong(Texts):
    def test_rows(self):
        for row in ("", " ", "End", "end ", " end", "end end", "nothing", "place", "place int ", "place  int", "place bool", "place int str", " place int",
                    "get 1", "get", "get ", "get 1 ", "get 1 2 3", "get  1 2", "get 1  2", "get 1 2 ", " get 1 2", "get 01 2", "get 1 02", "get 1 00", "get +1 2",
                    "get 1 +2", "get 1 -2", "get 1 -0", "get -1 2", "get 8 2", "get 10 2", "get 1 2x", "get x 2", "get 1 2.0", "get 1 0x2", "get 1 1_0",
                    "get 1 \u0662", "get 1\t2", "get 1 2\r", "get 1,2", "get 1 None", "get True 1", "get 1 int 2", "Get 1 2",
                    "keep 1 8", "arg 0 4", "reg 0 4", "arg 0 -1", "arg 0 10", "view 0 spec", "view 0", "view 0 Now", "view 0 now now", "view now 0",
                    "op 0 + 1", "op 0 == 1 2", "op 0 % 1 2", "op + 0 1 2", "op 0 + 1 2 3", "op 0 1 + 2", "op 0 ++ 1 2", "compare 0 + 1 2", "compare 0 = 1 2",
                    "compare 0 mod 1 2", "sub 0 1 2", "cat 0 1 2 3", "spec", "spec 0 0", "jump", "jump -1", "jump 1 2", "zero 1", "zero 8 1",
                    "array 0 0", "array 0 0 1", "array 0 0 0 0", "array 0 0 2 1", "array 0 0 2 1 2 3", "array 0 0 -1", "array 0 0 1 -1", "array 0 0 01 1",
                    "array 0 0 1 01", "array 0 0 1  1", "array 0 0 99999999999999999999 1", "setarray 0 0", "setarray 0 1 2", "setarray 0 1 2 8", "setarray 0 2 3 4",
                    "record", "record trace", "record trace 1", "record fault 0", "record 0 trace", "record trace 0 0", "record say 0 ", "put 0 0", "put 0 0 -2",
                    "put 0 0 -0", "put 0 0 8", "put 0 1 2", "put 0 -1 0", "put -1 0 0", "put 0 0 - 1", "stop 0", "skip skip", "speculate -1", "commit 8", "discard"):
            self.bad(row + "\n", 1)
            self.bad("place int\nskip\n" + row + "\nend\n", 3)

    def test_constants(self):
        for row in ("const 0", "const 0 int", "const 0 int ", "const 0 int -", "const 0 int --1", "const 0 int -0", "const 0 int +1", "const 0 int 01",
                    "const 0 int -01", "const 0 int 00", "const 0 int 9223372036854775808", "const 0 int -9223372036854775809", "const 0 int 1 ",
                    "const 0 int 1 1", "const 0 int  1", "const 0 int '1", "const 0 int 1'", "const 0 int 99999999999999999999999", "const 0 1", "const 0 bool 1",
                    "const 0 Int 1", "const 8 int 1", "const int 1", "const 0 int True", "const 0 str", "const 0 str 0", "const 0 str 0 ", "const 0 str '",
                    "const 0 str 1 '", "const 0 str 0 'a", "const 0 str 2 'a", "const 0 str 1 'ab", "const 0 str 1 ' '", "const 0 str 0  '", "const 0 str  0 '",
                    "const 0 str 00 '", "const 0 str 01 'a", "const 0 str +1 'a", "const 0 str -1 'a", "const 0 str 1 a", "const 0 str 1 \"a", "const 0 str 2 a'",
                    "const 0 str 1 'a ", "const 0 str 1 \"", "const 0 str 1 '\"", "const 0 str 1 '%", "const 0 str 1 '\\", "const 0 str 1 '\t",
                    "const 0 str 1 '\u00e9", "const 0 str 1 '\x7f", "const 0 str 33 '" + "x" * 33, "const 0 str 99 '" + "x" * 99, "const 0 str 'a' 1",
                    "const 0 str 1", "const 8 str 0 '", "const 0 STR 0 '"):
            self.bad(row + "\n", 1)
            self.bad("end\n" + row + "\nend\n", 2)

    def test_places_behind_a_row(self):
        self.bad("end\nplace int\n", 2)
        self.bad("place int\nend\nplace str\nend\n", 3)
        self.bad("place int\nskip\nskip\nplace int\nplace int\n", 4)

    def test_newlines(self):
        self.bad("end", 1)
        self.bad("place int", 1)
        self.bad("place int\nend", 2)
        self.bad("end\n\n", 2)
        self.bad("\n", 1)
        self.bad("\nend\n", 1)
        self.bad("end\n\nend\n", 2)
        self.bad("end\nskip\n ", 3)
        self.bad("place int\n\n", 2)
        self.bad("place int\n\nend\n", 2)
        self.bad(" ", 1)
        self.bad("end\r\nend\n", 1)
        self.bad("end\x0bend\n", 1)
        self.bad("end\u2028", 1)
        self.bad("const 0 str 3 'a\nb\n", 1)

    def test_the_first_wrong_row(self):
        self.bad("place int\nend\nwrong\nend\nwrong\n", 3)
        self.bad("wrong\nend", 1)
        self.bad("end\nwrong\nend", 2)
        self.bad("end\nskip\nend", 3)
        self.bad("place num\nplace int\nend\n", 1)
        self.bad("place int\nplace num\nend\nplace int\n", 2)

    def test_rows_with_parts_left_out_and_added(self):
        for _, text in WRITTEN:
            words = text.split(" ")
            for k in range(len(words)):
                for changed in (words[:k] + words[k + 1:], words[:k] + ["0"] + words[k:], words[:k] + [""] + words[k:], words[:k] + [words[k]] + words[k:],
                                words[:k] + ["x"] + words[k + 1:], words[:k] + ["8"] + words[k + 1:], words[:k] + ["+" + words[k]] + words[k + 1:],
                                words[:k] + ["0" + words[k]] + words[k + 1:], words + [""], [""] + words, words + ["0"]):
                    row = " ".join(changed)
                    self.compare(row + "\n")

    def compare(self, text):
        wrong = first_wrong(text)
        if wrong is None:
            self.assertEqual(write_text(read_text(text)), text)
        else:
            self.bad(text, wrong)

    def test_changed_texts_against_the_second_reader(self):
        counts = {}
        for seed in range(2500):
            chance = random.Random(seed)
            text = write_text(drawn_code(seed % 250)[0])
            for _ in range(chance.randint(1, 2)):
                k = chance.randrange(len(text) + 1)
                new = chance.choice("0123456789  --+'#\n\nxe\"")
                text = chance.choice((text[:k] + text[k + 1:], text[:k] + new + text[k:], text[:k] + new + text[k + 1:], text[:k]))
            self.compare(text)
            wrong = first_wrong(text) is not None
            counts[wrong] = counts.get(wrong, 0) + 1
        self.assertGreater(min(counts.values()), 100, counts)


if __name__ == "__main__":
    unittest.main()
