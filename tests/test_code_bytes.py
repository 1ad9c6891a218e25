"""Points 6.13 and 6.14: code as bytes."""

import random
import unittest

from drawn_code import drawn_code
from drawn_scripts import drawn_script
from second_text import code_bytes, first_wrong
from test_code import ROWS

from tapline.code_bytes import read_bytes, write_bytes
from tapline.code_text import write_text
from tapline.compile_clause import compile_clause
from tapline.errors import BadBytes
from tapline.optimise import optimise

# Each row, and its bytes.
WRITTEN = (
    (("const", 2, ("str", "a b")), [0, 2, 1, 3, 97, 32, 98]),
    (("const", 7, ("str", "")), [0, 7, 1, 0]),
    (("const", 0, ("int", 0)), [0, 0, 0] + [0] * 8),
    (("const", 0, ("int", 1)), [0, 0, 0, 1] + [0] * 7),
    (("const", 0, ("int", 0x0102030405060708)), [0, 0, 0, 8, 7, 6, 5, 4, 3, 2, 1]),
    (("const", 0, ("int", -1)), [0, 0, 0] + [255] * 8),
    (("const", 0, ("int", -2)), [0, 0, 0, 254] + [255] * 7),
    (("const", 0, ("int", 2 ** 63 - 1)), [0, 0, 0] + [255] * 7 + [127]),
    (("const", 0, ("int", -2 ** 63)), [0, 0, 0] + [0] * 7 + [128]),
    (("const", 0, ("str", "~ !'#")), [0, 0, 1, 5, 126, 32, 33, 39, 35]),
    (("view", 3, "now"), [1, 3, 0]), (("view", 3, "cpu"), [1, 3, 1]), (("view", 3, "pid"), [1, 3, 2]), (("view", 3, "tid"), [1, 3, 3]),
    (("view", 3, "at"), [1, 3, 4]), (("view", 3, "name"), [1, 3, 5]), (("arg", 4, 3), [2, 4, 3]), (("reg", 5, 0), [3, 5, 0]),
    (("get", 6, 9), [4, 6, 9]), (("keep", 9, 6), [5, 9, 6]), (("keep", 300, 6), [5, 172, 2, 6]), (("global", 1, 7), [6, 1, 7]),
    (("thread", 1, 128), [7, 1, 128, 1]), (("array", 1, 7, (5, 2, 4)), [8, 1, 7, 3, 5, 2, 4]), (("array", 1, 7, ()), [8, 1, 7, 0]),
    (("op", 1, "+", 5, 3), [9, 1, 0, 5, 3]), (("op", 1, "-", 5, 3), [9, 1, 1, 5, 3]), (("op", 1, "*", 5, 3), [9, 1, 2, 5, 3]),
    (("op", 1, "/", 5, 3), [9, 1, 3, 5, 3]), (("op", 1, "mod", 5, 3), [9, 1, 4, 5, 3]), (("compare", 1, "==", 5, 3), [10, 1, 0, 5, 3]),
    (("compare", 1, "!=", 5, 3), [10, 1, 1, 5, 3]), (("compare", 1, "<", 5, 3), [10, 1, 2, 5, 3]), (("compare", 1, "<=", 5, 3), [10, 1, 3, 5, 3]),
    (("compare", 1, ">", 5, 3), [10, 1, 4, 5, 3]), (("compare", 1, ">=", 5, 3), [10, 1, 5, 5, 3]), (("minus", 1, 2), [11, 1, 2]),
    (("not", 1, 2), [12, 1, 2]), (("len", 1, 2), [13, 1, 2]), (("cat", 1, 7, 0), [14, 1, 7, 0]), (("sub", 1, 7, 0, 4), [15, 1, 7, 0, 4]),
    (("text", 1, 2), [16, 1, 2]), (("byte", 1, 2), [17, 1, 2]), (("spec", 0), [18, 0]), (("jump", 1), [19, 1]), (("zero", 3, 200), [20, 3, 200, 1]),
    (("setglobal", 1, 2), [21, 1, 2]), (("setthread", 130, 2), [22, 130, 1, 2]), (("setarray", 1, (6, 300), 2), [23, 1, 2, 6, 172, 2, 2]),
    (("record", "trace", ()), [24, 0, 0]), (("record", "say", (8, 1, 0)), [24, 1, 3, 8, 1, 0]), (("put", 1, (3, 2), 5), [25, 1, 2, 3, 2, 5]),
    (("put", 0, (3,), -1), [25, 0, 1, 3, 255]), (("put", 0, (), 0), [25, 0, 0, 0]), (("speculate", 1), [26, 1]), (("commit", 1), [27, 1]),
    (("discard", 1), [28, 1]), (("stop",), [29]), (("skip",), [30]), (("end",), [31]),
)
COUNTS = ((0, [0]), (1, [1]), (127, [127]), (128, [128, 1]), (129, [129, 1]), (255, [255, 1]), (256, [128, 2]), (16383, [255, 127]),
          (16384, [128, 128, 1]), (16385, [129, 128, 1]), (2 ** 21 - 1, [255, 255, 127]), (2 ** 21, [128, 128, 128, 1]), (2 ** 70, [128] * 10 + [1]))


class Bytes(unittest.TestCase):
    def both(self, code, row):
        self.assertEqual(write_bytes(code), row)
        self.assertEqual(repr(read_bytes(row)), repr(code))

    def bad(self, row):
        with self.assertRaises(BadBytes, msg=str(row)[:200]):
            read_bytes(row)


class Written(Bytes):
    def test_each_row(self):
        for row, written in WRITTEN:
            self.both(((), (row,)), [0, 1] + written)
        self.assertEqual({row[0] for row, _ in WRITTEN}, {row[0] for row, *_ in ROWS})

    def test_all_rows(self):
        kinds = ("int", "str", "str", "int")
        self.both((kinds, tuple(row for row, _ in WRITTEN)), [4, 0, 1, 1, 0, len(WRITTEN)] + sum([written for _, written in WRITTEN], []))

    def test_without_places_or_rows(self):
        self.both(((), ()), [0, 0])
        self.both((("str",), ()), [1, 1, 0])
        self.both((("int", "str"), (("end",),)), [2, 0, 1, 1, 31])

    def test_counts(self):
        for n, count in COUNTS:
            for row, written in ((("jump", n), [19] + count), (("zero", 1, n), [20, 1] + count), (("get", 0, n), [4, 0] + count),
                                 (("keep", n, 0), [5] + count + [0]), (("global", 0, n), [6, 0] + count), (("thread", 0, n), [7, 0] + count),
                                 (("array", 0, n, (n, 1, n)), [8, 0] + count + [3] + count + [1] + count), (("setglobal", n, 0), [21] + count + [0]),
                                 (("setthread", n, 0), [22] + count + [0]), (("setarray", n, (n,), 0), [23] + count + [1] + count + [0]),
                                 (("record", "say", (n, n)), [24, 1, 2] + count + count), (("put", n, (n,), -1), [25] + count + [1] + count + [255])):
                self.both(((), (row,)), [0, 1] + written)

    def test_many_places_and_rows(self):
        for n, count in COUNTS:
            if n < 20000:
                self.both((("str",) * n, (("end",),)), count + [1] * n + [1, 31])
                self.both(((), (("skip",),) * n), [0] + count + [30] * n)
                self.both(((), (("record", "trace", (1,) * n),)), [0, 1, 24, 0] + count + [1] * n)

    def test_each_character_of_texts(self):
        for k in range(32, 127):
            if chr(k) not in "%\\\"":
                self.both(((), (("const", 0, ("str", chr(k) * 2)),)), [0, 1, 0, 0, 1, 2, k, k])
        self.both(((), (("const", 0, ("str", "x" * 32)),)), [0, 1, 0, 0, 1, 32] + [120] * 32)

    def test_what_is_returned_and_passed(self):
        code = ((), (("end",),))
        row = write_bytes(code)
        row.append(5)
        self.assertEqual(write_bytes(code), [0, 1, 31])
        row = [0, 1, 31]
        self.assertEqual(read_bytes(row), code)
        self.assertEqual(row, [0, 1, 31])

    def test_what_is_compiled(self):
        for seed in range(40):
            script = drawn_script(seed)
            for index in range(len(script[4])):
                code = compile_clause(script, index)
                for one in (code, optimise(code)[0]):
                    self.assertEqual(write_bytes(one), code_bytes(one))
                    self.assertEqual(repr(read_bytes(write_bytes(one))), repr(one))

    def test_drawn_code(self):
        for seed in range(200):
            code, _ = drawn_code(seed)
            self.both(code, code_bytes(code))


class Wrong(Bytes):
    def test_nothing_and_too_little(self):
        self.bad([])
        self.bad([0])
        self.bad([1])
        self.bad([1, 0])
        self.bad([0, 1])
        self.bad([0, 2, 31])
        for row, written in WRITTEN:
            for k in range(len(written)):
                self.bad([0, 1] + written[:k])

    def test_bytes_behind_the_end(self):
        for behind in ([0], [31], [255], [0, 0]):
            self.bad([0, 0] + behind)
            for _, written in WRITTEN:
                self.bad([0, 1] + written + behind)

    def test_counts_with_a_last_byte_of_0(self):
        for k in (0, 1, 5, 127):
            for many in (1, 2, 9):
                long = [128 + k] + [128] * (many - 1) + [0]
                self.bad([0, 1, 19] + long)
                self.bad([0, 1, 20, 3] + long)
                self.bad([0, 1, 8, 0, 0, 1] + long)
        self.bad([128, 0, 0])
        self.bad([129, 0, 0, 0])
        self.bad([0, 128, 0])
        self.bad([0, 129, 0, 31])
        self.bad([0, 1, 24, 0, 128, 0])
        self.bad([0, 1, 0, 0, 1, 128, 0])
        self.bad([0, 1, 0, 0, 1, 129, 0, 97])
        self.bad([0, 1, 19, 128])
        self.bad([0, 1, 19, 255, 255])

    def test_kinds_words_and_signs(self):
        for kind in (2, 3, 128, 255):
            self.bad([1, kind, 0])
            self.bad([0, 1, 0, 0, kind] + [0] * 8)
        for word in (32, 33, 127, 128, 255):
            self.bad([0, 1, word])
            self.bad([0, 1, word, 0])
        for k in (6, 7, 128, 255):
            self.bad([0, 1, 1, 0, k])
            self.bad([0, 1, 10, 0, k, 0, 0])
        for k in (5, 6, 255):
            self.bad([0, 1, 9, 0, k, 0, 0])
        for k in (2, 3, 255):
            self.bad([0, 1, 24, k, 0])
        for k in (4, 5, 127, 255):
            self.bad([0, 1, 2, 0, k])
            self.bad([0, 1, 3, 0, k])
        self.bad([0, 1, 2, 0, 132, 0])

    def test_registers(self):
        for a in (8, 9, 127, 128, 254, 255):
            for row in ([0, a] + [0] * 9, [1, a, 0], [4, a, 0], [5, 0, a], [9, a, 0, 0, 0], [9, 0, 0, a, 0], [9, 0, 0, 0, a], [11, 0, a], [18, a], [20, a, 0],
                        [21, 0, a], [23, 0, 0, a], [26, a], [27, a], [28, a], [15, 0, 0, 0, a]):
                self.bad([0, 1] + row)
            if a != 255:
                self.bad([0, 1, 25, 0, 0, a])

    def test_texts(self):
        for k in list(range(32)) + [34, 37, 92, 127, 128, 200, 255]:
            self.bad([0, 1, 0, 0, 1, 1, k])
        self.bad([0, 1, 0, 0, 1, 33] + [97] * 33)
        self.bad([0, 1, 0, 0, 1, 128, 1] + [97] * 128)
        self.bad([0, 1, 0, 0, 1, 2, 97])

    def test_counts_beyond_the_end(self):
        huge = [255] * 20 + [1]
        for row in (huge, [0] + huge, [0] + huge + [31], [0, 1, 24, 0] + huge, [0, 1, 8, 0, 0] + huge, [0, 1, 0, 0, 1] + huge, huge + [0, 0, 0]):
            self.bad(row)

    def test_changed_bytes(self):
        counts = {True: 0, False: 0}
        for seed in range(3000):
            chance = random.Random(seed)
            row = write_bytes(drawn_code(seed % 250)[0])
            for _ in range(chance.randint(1, 2)):
                k = chance.randrange(len(row) + 1)
                new = [chance.choice((0, 1, 2, 7, 8, 31, 32, 127, 128, 255, chance.randrange(256)))]
                row = chance.choice((row[:k] + row[k + 1:], row[:k] + new + row[k:], row[:k] + new + row[k + 1:], row[:k], row + new))
            try:
                code = read_bytes(row)
            except BadBytes:
                counts[False] += 1
                continue
            counts[True] += 1
            self.assertIsNone(first_wrong(write_text(code)), code)
            self.assertEqual(write_bytes(code), row)
        self.assertGreater(min(counts.values()), 100, counts)


if __name__ == "__main__":
    unittest.main()
