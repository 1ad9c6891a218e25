"""Points 10.3 to 10.5: rows, rows merged, and tables."""

import random
import unittest

from drawn_scripts import ARRAYS, GLOBALS, TABLES, THREADS
from second_buffer import collapsed
from stores import drawn_value

from tapline.aggregates import kept, merge
from tapline.check import typed_script
from tapline.lines import line_of, table_lines
from tapline.reader import Reader, joined, merge_tables


def number(n):
    return ("int", n)


def text(s):
    return ("str", s)


def at(time, mark=0):
    return (time, 0, "trace", (number(mark),))


def lost(n):
    return ("lost", n)


class Joined(unittest.TestCase):
    def test_examples(self):
        self.assertEqual(joined(()), ())
        self.assertEqual(joined((at(1), at(2), at(1))), (at(1), at(2), at(1)))
        self.assertEqual(joined((lost(2), lost(3))), (lost(5),))
        self.assertEqual(joined((lost(2), lost(3), at(1), lost(1), at(2), lost(1), lost(1), lost(1))), (lost(5), at(1), lost(1), at(2), lost(3)))
        self.assertEqual(joined((lost(1),)), (lost(1),))

    def test_a_tuple_that_stays(self):
        items = (lost(1), lost(2), at(4))
        self.assertIs(type(joined(items)), tuple)
        self.assertEqual(items, (lost(1), lost(2), at(4)))


class Rows(unittest.TestCase):
    def test_at_first(self):
        reader = Reader(3)
        self.assertEqual([reader.row(cpu) for cpu in range(3)], [(), (), ()])
        self.assertEqual((reader.merged(), reader.lost()), ([], 0))

    def test_lines_as_they_were_read(self):
        reader = Reader(2)
        items = (lost(1), lost(2), at(4, 7), lost(3))
        lines = reader.take(1, items)
        self.assertIs(type(lines), list)
        self.assertEqual(lines, ["1 lost 1", "1 lost 2", "1 @4 0 trace: 7", "1 lost 3"])
        lines.clear()
        self.assertEqual(reader.take(1, ()), [])
        self.assertEqual(reader.take(1, (lost(4),)), ["1 lost 4"])
        self.assertEqual(reader.row(1), (lost(3), at(4, 7), lost(7)))
        self.assertEqual(items, (lost(1), lost(2), at(4, 7), lost(3)))

    def test_the_border_of_two_readings(self):
        reader = Reader(1)
        reader.take(0, (at(1), lost(2)))
        reader.take(0, (lost(3), at(2)))
        reader.take(0, ())
        reader.take(0, (lost(1),))
        reader.take(0, (lost(1), lost(1)))
        self.assertEqual(reader.row(0), (at(1), lost(5), at(2), lost(3)))
        self.assertEqual(reader.lost(), 8)

    def test_rows_of_several_processors(self):
        reader = Reader(3)
        reader.take(2, (at(1), lost(2)))
        reader.take(0, (lost(3),))
        reader.take(2, (lost(4),))
        self.assertEqual([reader.row(cpu) for cpu in range(3)], [(lost(3),), (), (at(1), lost(6))])
        self.assertEqual(reader.lost(), 9)


class Merged(unittest.TestCase):
    def merged(self, *rows):
        reader = Reader(len(rows))
        for cpu, items in enumerate(rows):
            reader.take(cpu, items)
        return reader.merged()

    def test_times_that_rise(self):
        self.assertEqual(self.merged((at(1), at(4), at(6)), (at(2), at(3), at(7))),
                         [(0, at(1)), (1, at(2)), (1, at(3)), (0, at(4)), (0, at(6)), (1, at(7))])

    def test_equal_ranks(self):
        self.assertEqual(self.merged((at(5, 1), at(5, 2)), (at(5, 3),), (at(5, 0), at(5, 4))),
                         [(0, at(5, 1)), (0, at(5, 2)), (1, at(5, 3)), (2, at(5, 0)), (2, at(5, 4))])
        self.assertEqual(self.merged((at(5, 9), at(5, 1), at(5, 5)), ()), [(0, at(5, 9)), (0, at(5, 1)), (0, at(5, 5))])

    def test_times_that_fall(self):
        self.assertEqual(self.merged((at(8), at(2), at(3), at(9)), (at(4), at(8), at(1), at(10))),
                         [(1, at(4)), (0, at(8)), (0, at(2)), (0, at(3)), (1, at(8)), (1, at(1)), (0, at(9)), (1, at(10))])

    def test_lost_items_have_the_rank_of_what_stands_before(self):
        self.assertEqual(self.merged((lost(9), at(5), lost(1)), (at(0), lost(2), at(5), lost(3), at(4))),
                         [(0, lost(9)), (1, at(0)), (1, lost(2)), (0, at(5)), (0, lost(1)), (1, at(5)), (1, lost(3)), (1, at(4))])
        self.assertEqual(self.merged((at(100),), (lost(500),)), [(1, lost(500)), (0, at(100))])

    def test_items_that_cannot_be_compared(self):
        one, other = (5, 0, "trace", (number(1),)), (5, 0, "trace", (text("x"),))
        self.assertEqual(self.merged((one, other, lost(1), other), (other, one)), [(0, one), (0, other), (0, lost(1)), (0, other), (1, other), (1, one)])

    def test_processors_without_items(self):
        self.assertEqual(self.merged((), (at(1),), (), (lost(1),)), [(3, lost(1)), (1, at(1))])
        self.assertEqual(self.merged((), ()), [])

    def test_over_several_readings(self):
        reader = Reader(2)
        for cpu, items in ((0, (at(3), lost(1))), (1, (at(4),)), (0, (lost(2), at(5))), (1, (at(4, 1),))):
            reader.take(cpu, items)
        expected = [(0, at(3)), (0, lost(3)), (1, at(4)), (1, at(4, 1)), (0, at(5))]
        told = reader.merged()
        self.assertEqual(told, expected)
        told.reverse()
        told.append("x")
        self.assertEqual(reader.merged(), expected)
        self.assertIs(type(reader.row(0)), tuple)

    def test_drawn_rows(self):
        for seed in range(150):
            chance = random.Random(seed)
            reader, rows = Reader(4), [[] for _ in range(4)]
            for _ in range(chance.choice((3, 20))):
                cpu = chance.randrange(4)
                items = tuple(chance.choice((at(chance.randrange(9), chance.randrange(99)), lost(chance.randint(1, 3)))) for _ in range(chance.randrange(5)))
                self.assertEqual(reader.take(cpu, items), [line_of(cpu, item) for item in items])
                rows[cpu] += [(None, item[1]) if item[0] == "lost" else (item, 1) for item in items]
            rows = [collapsed(row) for row in rows]
            self.assertEqual([reader.row(cpu) for cpu in range(4)], rows)
            self.assertEqual(reader.lost(), sum(item[1] for row in rows for item in row if item[0] == "lost"))
            # The next item is always the first one of the row whose next rank is least.
            expected, ranks, taken = [], [0] * 4, [0] * 4
            while sum(taken) < sum(map(len, rows)):
                nexts = []
                for cpu in range(4):
                    if taken[cpu] < len(rows[cpu]):
                        item = rows[cpu][taken[cpu]]
                        nexts.append((ranks[cpu] if item[0] == "lost" else max(ranks[cpu], item[0]), cpu))
                rank, cpu = min(nexts)
                ranks[cpu] = rank
                expected.append((cpu, rows[cpu][taken[cpu]]))
                taken[cpu] += 1
            self.assertEqual(reader.merged(), expected)


SCRIPT = typed_script("""
probe tick { @z = sum(1); @a[name] = count(); @c[cpu, name, now] = least(1); @m[cpu] = most(2); @h[name, cpu] = hist(3); @e = hist(1); }""")


class TableLines(unittest.TestCase):
    def test_each_function(self):
        merged = ({(): -5}, {(text("on"),): 4}, {(number(1), text("b c"), number(-3)): -2 ** 63}, {(number(-7),): 2 ** 63 - 1},
                  {(text(""), number(0)): ((0, 1), (64, 12), (128, 3))}, {(): ((65, 1),)})
        lines = table_lines(SCRIPT, merged)
        self.assertIs(type(lines), list)
        self.assertEqual(lines, ["z = -5", "a[\"on\"] = 4", "c[1, \"b c\", -3] = -9223372036854775808", "m[-7] = 9223372036854775807",
                                 "h[\"\", 0] = 0:1 64:12 128:3", "e = 65:1"])

    def test_the_order_of_the_script_and_of_the_keys(self):
        merged = ({}, {(text(s),): 1 for s in ("b", "a", "", "ab", "B", "~", "a ")},
                  {(number(a), text(s), number(b)): 0 for a, s, b in ((2, "a", 1), (10, "a", 0), (-1, "z", 0), (2, "a", -5), (2, "", 9))},
                  {(number(n),): n for n in (3, -20, 10, 0, -3)}, {}, {})
        self.assertEqual(table_lines(SCRIPT, merged), [f"a[\"{s}\"] = 1" for s in ("", "B", "a", "a ", "ab", "b", "~")]
                         + ["c[-1, \"z\", 0] = 0", "c[2, \"\", 9] = 0", "c[2, \"a\", -5] = 0", "c[2, \"a\", 1] = 0", "c[10, \"a\", 0] = 0"]
                         + [f"m[{n}] = {n}" for n in (-20, -3, 0, 3, 10)])

    def test_nothing(self):
        self.assertEqual(table_lines(SCRIPT, ({},) * 6), [])
        self.assertEqual(table_lines(typed_script("int n;"), ()), [])

    def test_what_is_passed_stays(self):
        merged = ({}, {(text("b"),): 1, (text("a"),): 2}, {}, {}, {}, {})
        table_lines(SCRIPT, merged)
        self.assertEqual(list(merged[1]), [(text("b"),), (text("a"),)])


class MergedTables(unittest.TestCase):
    def test_no_readings(self):
        self.assertEqual(merge_tables(SCRIPT, []), ({},) * 6)
        self.assertEqual(merge_tables(typed_script("int n;"), [(), ()]), ())

    def test_table_by_table(self):
        first = ({(): 1}, {(text("x"),): 1}, {}, {(number(1),): 5}, {}, {(): ((64, 1),)})
        second = ({(): 2 ** 63 - 1}, {(text("x"),): 2, (text("y"),): 3}, {}, {(number(1),): 4}, {}, {(): ((60, 1), (64, 2))})
        before = repr((first, second))
        expected = ({(): -2 ** 63}, {(text("x"),): 3, (text("y"),): 3}, {}, {(number(1),): 5}, {}, {(): ((60, 1), (64, 3))})
        merged = merge_tables(SCRIPT, [first, second])
        self.assertIs(type(merged), tuple)
        self.assertEqual(merged, expected)
        self.assertEqual(merge_tables(SCRIPT, [second, first]), expected)
        merged[1].clear()
        merge_tables(SCRIPT, [first])[0].clear()
        self.assertEqual(repr((first, second)), before)

    def test_drawn_tables(self):
        script = (GLOBALS, ARRAYS, THREADS, TABLES, ())
        for seed in range(30):
            chance = random.Random(seed)
            tables = [tuple({tuple(drawn_value(chance, kind) for kind in kinds): kept(function, [chance.randrange(-9, 9)]) for _ in range(chance.randrange(4))}
                            for _, kinds, function in TABLES) for _ in range(chance.randrange(5))]
            self.assertEqual(merge_tables(script, tables), tuple(merge(function, [found[i] for found in tables]) for i, (_, _, function) in enumerate(TABLES)))


if __name__ == "__main__":
    unittest.main()
