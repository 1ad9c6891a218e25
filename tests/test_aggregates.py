"""Points 7.3 to 7.6: aggregations."""

import random
import unittest

from tapline.aggregates import Aggregates, interval, join, kept, merge

FUNCTIONS = ("count", "sum", "least", "most", "hist")
LEAST = -2 ** 63
GREATEST = 2 ** 63 - 1
ALL = [0, 1, -1, GREATEST, LEAST] + [sign * 2 ** k + more for k in range(63) for sign in (1, -1) for more in (-1, 0, 1)]


def key(*parts):
    return tuple(("int", part) if isinstance(part, int) else ("str", part) for part in parts)


def within(n):
    n %= 2 ** 64
    return n - 2 ** 64 if n >= 2 ** 63 else n


def digits(n):
    """The binary digits of a positive number, counted one by one."""
    many = 0
    while n:
        n //= 2
        many += 1
    return many


def second_interval(n):
    if n == 0:
        return 64
    return 64 + digits(n) if n > 0 else 64 - digits(-n)


def second_kept(function, numbers):
    """7.4 once more."""
    if function == "hist":
        found = [second_interval(n) for n in numbers]
        return tuple((k, found.count(k)) for k in range(129) if k in found)
    if function == "sum":
        total = 0
        for n in numbers:
            total = within(total + n)
        return total
    return {"count": len(numbers), "least": sorted(numbers)[0], "most": sorted(numbers)[-1]}[function]


def drawn_numbers(chance, most=8):
    return [chance.choice(ALL) for _ in range(chance.randint(1, most))]


def passed(function, numbers):
    """What is put: for count None."""
    return [None] * len(numbers) if function == "count" else list(numbers)


class Intervals(unittest.TestCase):
    def test_named_ones(self):
        self.assertEqual([interval(n) for n in (0, 1, -1, GREATEST, LEAST)], [64, 65, 63, 127, 0])
        self.assertEqual([interval(n) for n in (2, 3, 4, 7, 8, -2, -3, -4, -7, -8)], [66, 66, 67, 67, 68, 62, 62, 61, 61, 60])

    def test_powers_and_their_neighbours(self):
        for n in ALL:
            if LEAST <= n <= GREATEST:
                self.assertEqual(interval(n), second_interval(n), n)
        for k in range(63):
            self.assertEqual((interval(2 ** k), interval(-2 ** k)), (65 + k, 63 - k))
            self.assertEqual((interval(2 ** k - 1), interval(1 - 2 ** k)), (64 + k, 64 - k))


class Kept(unittest.TestCase):
    def test_count(self):
        self.assertEqual([kept("count", [None] * k) for k in (1, 2, 7)], [1, 2, 7])

    def test_sum(self):
        self.assertEqual(kept("sum", [5]), 5)
        self.assertEqual(kept("sum", [5, -7, 1]), -1)
        self.assertEqual(kept("sum", [GREATEST, 1]), LEAST)
        self.assertEqual(kept("sum", [LEAST, -1]), GREATEST)
        self.assertEqual(kept("sum", [GREATEST, GREATEST, GREATEST]), within(3 * GREATEST))
        self.assertEqual(kept("sum", [LEAST, LEAST]), 0)

    def test_least_and_most(self):
        self.assertEqual([kept("least", [3, -5, 4]), kept("most", [3, -5, 4])], [-5, 4])
        self.assertEqual([kept("least", [LEAST, GREATEST]), kept("most", [LEAST, GREATEST])], [LEAST, GREATEST])
        self.assertEqual([kept("least", [0]), kept("most", [0])], [0, 0])

    def test_hist(self):
        self.assertEqual(kept("hist", [0]), ((64, 1),))
        self.assertEqual(kept("hist", [5, -1, 0, 4, 7, GREATEST, LEAST, -1]), ((0, 1), (63, 2), (64, 1), (67, 3), (127, 1)))

    def test_drawn_rows(self):
        chance = random.Random(1)
        for _ in range(300):
            numbers = drawn_numbers(chance, 12)
            before = list(numbers)
            for function in FUNCTIONS:
                self.assertEqual(kept(function, passed(function, numbers)), second_kept(function, numbers))
            self.assertEqual(numbers, before)


class Joining(unittest.TestCase):
    def test_examples(self):
        self.assertEqual(join("count", 3, 4), 7)
        self.assertEqual(join("sum", 3, -4), -1)
        self.assertEqual((join("sum", GREATEST, 2), join("sum", LEAST, -2)), (LEAST + 1, GREATEST - 1))
        self.assertEqual((join("least", 3, -4), join("least", -4, 3), join("least", 2, 2)), (-4, -4, 2))
        self.assertEqual((join("most", 3, -4), join("most", -4, 3), join("most", 2, 2)), (3, 3, 2))
        self.assertEqual(join("hist", ((3, 1), (64, 2)), ((2, 5), (64, 4), (100, 1))), ((2, 5), (3, 1), (64, 6), (100, 1)))

    def test_order_grouping_and_rows(self):
        chance = random.Random(2)
        for _ in range(150):
            rows = [drawn_numbers(chance) for _ in range(3)]
            for function in FUNCTIONS:
                a, b, c = [kept(function, passed(function, row)) for row in rows]
                whole = second_kept(function, rows[0] + rows[1] + rows[2])
                self.assertEqual(join(function, join(function, a, b), c), whole)
                self.assertEqual(join(function, a, join(function, b, c)), whole)
                self.assertEqual(join(function, c, join(function, b, a)), whole)
                self.assertEqual(join(function, a, b), join(function, b, a))


class Tables(unittest.TestCase):
    def test_numbers_under_keys(self):
        table = Aggregates("sum", 2)
        self.assertEqual((table.lost, table.look()), (0, {}))
        self.assertIs(table.put(key("x", 1), 5), True)
        self.assertIs(table.put(key("y", 1), -2), True)
        self.assertIs(table.put(key("x", 1), 10), True)
        self.assertEqual(table.look(), {key("x", 1): 15, key("y", 1): -2})
        self.assertEqual(table.lost, 0)

    def test_no_cell_for_a_new_key(self):
        table = Aggregates("count", 1)
        self.assertIs(table.put(key(1), None), True)
        self.assertIs(table.put(key(2), None), False)
        self.assertIs(table.put(key(2), None), False)
        self.assertIs(table.put(key(1), None), True)
        self.assertEqual((table.look(), table.lost), ({key(1): 2}, 2))

    def test_no_cells(self):
        for function in FUNCTIONS:
            table = Aggregates(function, 0)
            for k in range(3):
                self.assertIs(table.put((), passed(function, [k])[0]), False)
                self.assertEqual((table.look(), table.lost), ({}, k + 1))
            self.assertEqual(table.empty(), {})

    def test_a_table_without_keys(self):
        for function, expected in (("count", 3), ("sum", 6), ("least", -1), ("most", 5), ("hist", ((63, 1), (66, 1), (67, 1)))):
            table = Aggregates(function, 1)
            for n in (5, -1, 2):
                self.assertIs(table.put((), passed(function, [n])[0]), True)
            self.assertEqual(table.look(), {(): expected})

    def test_sums_leave_the_range_at_either_side(self):
        table = Aggregates("sum", 2)
        for k, n in ((0, GREATEST), (0, 3), (1, LEAST), (1, -3)):
            table.put(key(k), n)
        self.assertEqual(table.look(), {key(0): LEAST + 2, key(1): GREATEST - 2})

    def test_emptying(self):
        table = Aggregates("most", 1)
        table.put(key("a"), 4)
        table.put(key("b"), 5)
        self.assertEqual(table.empty(), {key("a"): 4})
        self.assertEqual((table.look(), table.lost), ({}, 1))
        self.assertEqual(table.empty(), {})
        self.assertIs(table.put(key("b"), 3), True)
        self.assertIs(table.put(key("a"), 9), False)
        self.assertEqual((table.look(), table.lost), ({key("b"): 3}, 2))

    def test_what_was_told_may_be_changed(self):
        table = Aggregates("hist", 2)
        table.put(key(1), 7)
        told = table.look()
        self.assertIs(type(told), dict)
        told[key(2)] = ((64, 1),)
        told[key(1)] = ()
        self.assertEqual(table.look(), {key(1): ((67, 1),)})
        told = table.empty()
        told[key(3)] = ((64, 1),)
        self.assertEqual(table.look(), {})
        table.put(key(1), 1)
        self.assertEqual((table.look(), told), ({key(1): ((65, 1),)}, {key(1): ((67, 1),), key(3): ((64, 1),)}))

    def test_two_do_not_touch_each_other(self):
        first, second = Aggregates("sum", 1), Aggregates("sum", 1)
        first.put((), 1)
        first.put(key(1), 1)
        self.assertEqual((second.look(), second.lost), ({}, 0))


class Merging(unittest.TestCase):
    def test_none_and_one(self):
        for function in FUNCTIONS:
            self.assertEqual(merge(function, []), {})
            self.assertEqual(merge(function, [{}]), {})
            self.assertEqual(merge(function, [{}, {}]), {})
        table = {key("x"): 4, key("y"): 5}
        self.assertEqual(merge("sum", [table]), table)
        merged = merge("sum", [table])
        merged.clear()
        self.assertEqual(table, {key("x"): 4, key("y"): 5})

    def test_several(self):
        tables = [{key("x"): 4, key("y"): 5}, {key("y"): 7}, {}, {key("z"): 1, key("x"): -1}]
        expected = {"sum": (3, 12, 1), "count": (3, 12, 1), "least": (-1, 5, 1), "most": (4, 7, 1)}
        for function, values in expected.items():
            merged = merge(function, tables)
            self.assertIs(type(merged), dict)
            self.assertEqual(merged, dict(zip((key("x"), key("y"), key("z")), values)))
            self.assertEqual(merge(function, tables[::-1]), merged)
        self.assertEqual(tables, [{key("x"): 4, key("y"): 5}, {key("y"): 7}, {}, {key("z"): 1, key("x"): -1}])
        self.assertEqual(merge("hist", [{(): ((1, 1),)}, {(): ((0, 2), (1, 3))}]), {(): ((0, 2), (1, 4))})

    def test_drawn_tables_emptied_at_any_moment(self):
        """What was told and what is left gives the function of all that was put and not lost."""
        losses = 0
        for seed in range(100):
            chance = random.Random(seed)
            function = FUNCTIONS[seed % 5]
            tables = [Aggregates(function, chance.choice((0, 1, 2, 4, 30))) for _ in range(chance.randint(1, 4))]
            told, put, lost = [], {}, [0] * len(tables)
            for _ in range(150):
                t = chance.randrange(len(tables))
                if chance.random() < 0.04:
                    told.append(tables[t].empty())
                if chance.random() < 0.04:
                    tables[t].look().clear()
                where = key(chance.randrange(3), chance.choice("ab"))
                n = chance.choice(ALL[:200])
                if tables[t].put(where, passed(function, [n])[0]):
                    put.setdefault(where, []).append(n)
                else:
                    lost[t] += 1
            self.assertEqual([table.lost for table in tables], lost)
            losses += sum(lost)
            told += [table.look() for table in tables]
            expected = {where: second_kept(function, numbers) for where, numbers in put.items()}
            self.assertEqual(merge(function, told), expected)
            chance.shuffle(told)
            self.assertEqual(merge(function, told), expected)
            cut = chance.randint(0, len(told))
            self.assertEqual(merge(function, [merge(function, told[:cut]), merge(function, told[cut:])]), expected)
        self.assertGreater(losses, 500)


if __name__ == "__main__":
    unittest.main()
