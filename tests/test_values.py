"""Point 5.1, and in 5.7 the rows of the operators."""

import random
import unittest

from tapline.values import apply_op, apply_same, wrap, zero

LEAST, GREATEST, RANGE = -2 ** 63, 2 ** 63 - 1, 2 ** 64
EDGES = (LEAST, LEAST + 1, -2 ** 32, -3, -2, -1, 0, 1, 2, 3, 7, 2 ** 32, GREATEST - 1, GREATEST)
COMPARES = ("==", "!=", "<", "<=", ">", ">=")


class Values(unittest.TestCase):
    def test_zero(self):
        self.assertEqual(zero("int"), ("int", 0))
        self.assertEqual(zero("str"), ("str", ""))
        self.assertIs(type(zero("int")[1]), int)

    def test_numbers_of_the_range_stay(self):
        for n in EDGES:
            self.assertEqual(wrap(n), n)

    def test_numbers_out_of_the_range(self):
        for n, wrapped in ((GREATEST + 1, LEAST), (GREATEST + 2, LEAST + 1), (LEAST - 1, GREATEST), (LEAST - 2, GREATEST - 1),
                           (RANGE, 0), (RANGE - 1, -1), (-RANGE, 0), (1 - RANGE, 1), (2 * GREATEST, -2), (2 * LEAST, 0)):
            self.assertEqual(wrap(n), wrapped)

    def test_far_out_of_the_range(self):
        for n in EDGES:
            for k in (1, -1, 2, -7, 10 ** 30, -10 ** 30, 2 ** 200 + 1):
                self.assertEqual(wrap(n + k * RANGE), n)
        self.assertEqual(wrap(LEAST * LEAST), 0)
        self.assertEqual(wrap(GREATEST * GREATEST), 1)
        self.assertEqual(wrap(GREATEST * LEAST), LEAST)


class Operators(unittest.TestCase):
    def check(self, sign, a, b, result):
        with self.subTest(sign=sign, a=a, b=b):
            self.assertEqual(apply_op(sign, a, b), result)
            self.assertIs(type(apply_op(sign, a, b)), type(result))

    def test_sums_differences_and_products(self):
        for a, b, total, less, times in (
                (2, 3, 5, -1, 6), (-2, 3, 1, -5, -6), (2, -3, -1, 5, -6), (-2, -3, -5, 1, 6), (0, 5, 5, -5, 0),
                (GREATEST, 1, LEAST, GREATEST - 1, GREATEST), (1, GREATEST, LEAST, 2 - 2 ** 63, GREATEST),
                (LEAST, -1, GREATEST, LEAST + 1, LEAST), (LEAST, 1, LEAST + 1, GREATEST, LEAST),
                (0, LEAST, LEAST, LEAST, 0), (-1, LEAST, GREATEST, GREATEST, LEAST), (LEAST, LEAST, 0, 0, 0),
                (GREATEST, GREATEST, -2, 0, 1), (GREATEST, LEAST, -1, -1, LEAST), (LEAST, 2, LEAST + 2, GREATEST - 1, 0),
                (2 ** 32, 2 ** 32, 2 ** 33, 0, 0), (2 ** 32, 2 ** 31, 3 * 2 ** 31, 2 ** 31, LEAST)):
            self.check("+", a, b, total)
            self.check("-", a, b, less)
            self.check("*", a, b, times)

    def test_division_rounds_down(self):
        for a, b, quotient, rest in ((7, 2, 3, 1), (-7, 2, -4, 1), (7, -2, -4, -1), (-7, -2, 3, -1),
                                     (6, 2, 3, 0), (-6, 2, -3, 0), (6, -2, -3, 0), (-6, -2, 3, 0),
                                     (1, 5, 0, 1), (-1, 5, -1, 4), (1, -5, -1, -4), (-1, -5, 0, -1),
                                     (0, 5, 0, 0), (0, -5, 0, 0), (5, 1, 5, 0), (5, -1, -5, 0),
                                     (LEAST, 1, LEAST, 0), (LEAST, -1, LEAST, 0), (GREATEST, -1, -GREATEST, 0),
                                     (LEAST, 2, -2 ** 62, 0), (GREATEST, 2, 2 ** 62 - 1, 1), (LEAST, LEAST, 1, 0),
                                     (GREATEST, LEAST, -1, -1), (LEAST, GREATEST, -2, GREATEST - 1),
                                     (-1, LEAST, 0, -1), (1, LEAST, -1, LEAST + 1), (-1, GREATEST, -1, GREATEST - 1)):
            self.check("/", a, b, quotient)
            self.check("mod", a, b, rest)

    def test_division_by_zero(self):
        for a in EDGES:
            self.check("/", a, 0, None)
            self.check("mod", a, 0, None)

    def test_comparisons(self):
        for a, b, truths in ((1, 1, (1, 0, 0, 1, 0, 1)), (1, 2, (0, 1, 1, 1, 0, 0)), (2, 1, (0, 1, 0, 0, 1, 1)),
                             (-1, 1, (0, 1, 1, 1, 0, 0)), (LEAST, GREATEST, (0, 1, 1, 1, 0, 0)),
                             (GREATEST, LEAST, (0, 1, 0, 0, 1, 1)), (LEAST, LEAST, (1, 0, 0, 1, 0, 1)),
                             (0, 0, (1, 0, 0, 1, 0, 1)), (-1, -2, (0, 1, 0, 0, 1, 1))):
            for sign, truth in zip(COMPARES, truths):
                self.check(sign, a, b, truth)

    def test_all_results_are_in_the_range(self):
        chance = random.Random(4)
        for _ in range(3000):
            a, b = (chance.choice((chance.choice(EDGES), chance.randint(LEAST, GREATEST), chance.randint(-9, 9))) for _ in "ab")
            exact = {"+": a + b, "-": a - b, "*": a * b}
            if b != 0:
                exact["/"] = a // b
                exact["mod"] = a - b * (a // b)
                self.assertTrue(b < apply_op("mod", a, b) <= 0 or 0 <= apply_op("mod", a, b) < b)
                self.assertEqual(wrap(apply_op("/", a, b) * b + apply_op("mod", a, b)), a)
            for sign in exact:
                result = apply_op(sign, a, b)
                self.assertTrue(LEAST <= result <= GREATEST)
                self.assertEqual((result - exact[sign]) % RANGE, 0)


class Texts(unittest.TestCase):
    def test_comparisons(self):
        for s, t, truths in (("a", "a", (1, 0, 0, 1, 0, 1)), ("a", "b", (0, 1, 1, 1, 0, 0)), ("b", "a", (0, 1, 0, 0, 1, 1)),
                             ("", "", (1, 0, 0, 1, 0, 1)), ("", "a", (0, 1, 1, 1, 0, 0)), ("a", "", (0, 1, 0, 0, 1, 1)),
                             ("ab", "abc", (0, 1, 1, 1, 0, 0)), ("abc", "ab", (0, 1, 0, 0, 1, 1)),
                             ("abc", "b", (0, 1, 1, 1, 0, 0)), ("Z", "a", (0, 1, 1, 1, 0, 0)), ("_", "a", (0, 1, 1, 1, 0, 0)),
                             ("~", "z", (0, 1, 0, 0, 1, 1)), (" ", "!", (0, 1, 1, 1, 0, 0)), ("9", "A", (0, 1, 1, 1, 0, 0)),
                             ("10", "9", (0, 1, 1, 1, 0, 0)), ("a ", "a", (0, 1, 0, 0, 1, 1)),
                             ("x" * 32, "x" * 31, (0, 1, 0, 0, 1, 1))):
            for sign, truth in zip(COMPARES, truths):
                with self.subTest(sign=sign, s=s, t=t):
                    self.assertEqual(apply_same(sign, s, t), truth)
                    self.assertIs(type(apply_same(sign, s, t)), int)


if __name__ == "__main__":
    unittest.main()
