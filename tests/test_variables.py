"""Points 7.1 and 7.2: variables in a limited number of cells."""

import random
import unittest

from drawn_scripts import ARRAYS, GLOBALS, THREADS
from stores import drawn_value

from tapline.check import typed_script
from tapline.variables import Variables

SCRIPT = typed_script("""
int n; str s; thread int t; thread str u; int a[int]; str b[str, int]; int c[str];
probe tick { n = 1; }""")


def number(n):
    return ("int", n)


def text(s):
    return ("str", s)


def one(n):
    return (number(n),)


class Globals(unittest.TestCase):
    def test_zero_values_at_first(self):
        for cells in (0, 1, 5):
            variables = Variables(SCRIPT, cells)
            self.assertEqual(variables.lost, 0)
            self.assertEqual(variables.global_value(0), number(0))
            self.assertEqual(variables.global_value(1), text(""))
            self.assertEqual(variables.image(), ((number(0), text("")), (), ()))

    def test_each_has_its_own_cell(self):
        variables = Variables(SCRIPT, 0)
        self.assertIsNone(variables.set_global(0, number(-5)))
        self.assertIsNone(variables.set_global(1, text("x")))
        self.assertEqual((variables.global_value(0), variables.global_value(1)), (number(-5), text("x")))
        self.assertIsNone(variables.set_global(0, number(0)))
        self.assertEqual(variables.image(), ((number(0), text("x")), (), ()))
        self.assertEqual(variables.lost, 0)

    def test_a_script_without_variables(self):
        self.assertEqual(Variables(((), (), (), (), ()), 3).image(), ((), (), ()))


class Tries(unittest.TestCase):
    def test_what_has_no_cell(self):
        variables = Variables(SCRIPT, 1)
        for tid in (-1, 0, 7, 1000):
            self.assertEqual(variables.thread_value(tid, 0), number(0))
            self.assertEqual(variables.thread_value(tid, 1), text(""))
        self.assertEqual(variables.array_value(0, one(3)), number(0))
        self.assertEqual(variables.array_value(1, (text(""), number(-1))), text(""))
        self.assertEqual(variables.array_value(2, (text("k"),)), number(0))
        self.assertEqual((variables.lost, variables.image()[1:]), (0, ((), ())))

    def test_no_cells(self):
        variables = Variables(SCRIPT, 0)
        self.assertIs(variables.set_thread(0, 0, number(1)), False)
        self.assertIs(variables.set_array(0, one(1), number(1)), False)
        self.assertEqual(variables.lost, 2)
        self.assertIs(variables.set_thread(0, 0, number(0)), True)
        self.assertIs(variables.set_array(1, (text("x"), number(1)), text("")), True)
        self.assertEqual(variables.lost, 2)
        self.assertEqual((variables.thread_value(0, 0), variables.array_value(0, one(1))), (number(0), number(0)))
        self.assertEqual(variables.image(), ((number(0), text("")), (), ()))

    def test_one_cell_of_thread_variables(self):
        variables = Variables(SCRIPT, 1)
        self.assertIs(variables.set_thread(4, 1, text("x")), True)
        self.assertIs(variables.set_thread(4, 0, number(1)), False)
        self.assertIs(variables.set_thread(5, 1, text("y")), False)
        self.assertEqual(variables.lost, 2)
        self.assertEqual(variables.thread_value(5, 1), text(""))
        self.assertIs(variables.set_thread(4, 1, text("z")), True)
        self.assertEqual(variables.thread_value(4, 1), text("z"))
        self.assertEqual(variables.image()[1:], (((4, 1, text("z")),), ()))
        self.assertEqual(variables.lost, 2)

    def test_one_cell_of_arrays(self):
        variables = Variables(SCRIPT, 1)
        keys = (text("k"), number(2))
        self.assertIs(variables.set_array(1, keys, text("x")), True)
        self.assertIs(variables.set_array(1, (text("k"), number(3)), text("x")), False)
        self.assertIs(variables.set_array(0, one(2), number(1)), False)
        self.assertIs(variables.set_array(2, (text("k"),), number(1)), False)
        self.assertEqual(variables.array_value(0, one(2)), number(0))
        self.assertIs(variables.set_array(1, keys, text("y")), True)
        self.assertEqual(variables.image()[1:], ((), ((1, keys, text("y")),)))
        self.assertEqual(variables.lost, 3)

    def test_the_zero_value_frees_a_cell(self):
        variables = Variables(SCRIPT, 2)
        variables.set_thread(0, 0, number(1))
        variables.set_thread(1, 0, number(2))
        self.assertIs(variables.set_thread(2, 0, number(3)), False)
        self.assertIs(variables.set_thread(2, 0, number(0)), True)
        self.assertIs(variables.set_thread(2, 0, number(3)), False)
        self.assertIs(variables.set_thread(0, 0, number(0)), True)
        self.assertIs(variables.set_thread(0, 0, number(0)), True)
        self.assertEqual(variables.thread_value(0, 0), number(0))
        self.assertIs(variables.set_thread(2, 0, number(3)), True)
        self.assertIs(variables.set_thread(0, 0, number(1)), False)
        self.assertEqual(variables.image()[1], ((1, 0, number(2)), (2, 0, number(3))))
        self.assertEqual(variables.lost, 3)

    def test_the_empty_text_frees_a_cell(self):
        variables = Variables(SCRIPT, 1)
        variables.set_array(1, (text(""), number(0)), text(" "))
        self.assertIs(variables.set_array(0, one(0), number(9)), False)
        self.assertIs(variables.set_array(1, (text(""), number(0)), text("")), True)
        self.assertIs(variables.set_array(0, one(0), number(9)), True)
        self.assertEqual(variables.image()[2], ((0, one(0), number(9)),))

    def test_threads_and_arrays_have_cells_of_their_own(self):
        variables = Variables(SCRIPT, 2)
        for k in range(3):
            self.assertIs(variables.set_thread(k, 0, number(1)), k < 2)
        for k in range(3):
            self.assertIs(variables.set_array(0, one(k), number(1)), k < 2)
        self.assertEqual(variables.lost, 2)

    def test_the_thread_minus_one(self):
        variables = Variables(SCRIPT, 2)
        self.assertIs(variables.set_thread(-1, 0, number(8)), True)
        self.assertIs(variables.set_thread(0, 0, number(9)), True)
        self.assertIs(variables.set_thread(1, 0, number(9)), False)
        self.assertEqual((variables.thread_value(-1, 0), variables.thread_value(-1, 1)), (number(8), text("")))
        self.assertEqual(variables.image()[1], ((-1, 0, number(8)), (0, 0, number(9))))

    def test_losses_are_counted_one_by_one(self):
        variables = Variables(SCRIPT, 0)
        for k in range(1, 6):
            variables.set_thread(k, 0, number(k))
            self.assertEqual(variables.lost, k)


class Images(unittest.TestCase):
    def test_ascending(self):
        variables = Variables(SCRIPT, 20)
        for tid, i in ((10, 0), (2, 1), (-1, 1), (2, 0), (0, 1), (-1, 0)):
            variables.set_thread(tid, i, text("x") if i else number(tid + 5))
        self.assertEqual([row[:2] for row in variables.image()[1]], [(-1, 0), (-1, 1), (0, 1), (2, 0), (2, 1), (10, 0)])
        for k in (5, -3, 10, 0, -20, 2):
            variables.set_array(0, one(k), number(1))
        for s, k in (("b", 1), ("a", 7), ("ab", -1), ("", 0), ("a", -7), ("B", 3), ("ab", -2)):
            variables.set_array(1, (text(s), number(k)), text("v"))
        self.assertEqual([row[1][0][1] for row in variables.image()[2][:6]], [-20, -3, 0, 2, 5, 10])
        self.assertEqual([(row[1][0][1], row[1][1][1]) for row in variables.image()[2][6:]],
                         [("", 0), ("B", 3), ("a", -7), ("a", 7), ("ab", -2), ("ab", -1), ("b", 1)])
        self.assertEqual({row[0] for row in variables.image()[2]}, {0, 1})

    def test_tuples_throughout(self):
        variables = Variables(SCRIPT, 4)
        before = variables.image()
        variables.set_global(0, number(1))
        variables.set_thread(1, 1, text("x"))
        variables.set_array(0, one(1), number(7))
        self.assertEqual(before, ((number(0), text("")), (), ()))
        self.assertEqual(variables.image(), ((number(1), text("")), ((1, 1, text("x")),), ((0, one(1), number(7)),)))

    def test_two_do_not_touch_each_other(self):
        first, second = Variables(SCRIPT, 1), Variables(SCRIPT, 1)
        first.set_global(0, number(1))
        first.set_thread(0, 0, number(2))
        first.set_array(0, one(0), number(3))
        first.set_array(0, one(1), number(3))
        self.assertEqual((second.image(), second.lost), (((number(0), text("")), (), ()), 0))
        self.assertIs(second.set_thread(1, 0, number(1)), True)
        self.assertEqual(first.image()[1], ((0, 0, number(2)),))


class Compared(unittest.TestCase):
    """Rows of drawn tries, compared with what the words of 7.2 say."""

    def test_drawn_tries(self):
        answers = {True: 0, False: 0}
        for seed in range(80):
            chance = random.Random(seed)
            cells = chance.choice((0, 1, 2, 3, 6, 50))
            variables = Variables((GLOBALS, ARRAYS, THREADS, (), ()), cells)
            threads, arrays, lost = {}, {}, 0
            for _ in range(120):
                if chance.random() < 0.5:
                    i = chance.randrange(len(THREADS))
                    tid = chance.randrange(-1, 4)
                    held, place, kind = threads, (tid, i), THREADS[i][1]
                    change, look = (lambda v: variables.set_thread(tid, i, v)), (lambda: variables.thread_value(tid, i))
                else:
                    i = chance.randrange(len(ARRAYS))
                    keys = tuple(drawn_value(chance, of) for of in ARRAYS[i][1])
                    held, place, kind = arrays, (i, keys), ARRAYS[i][2]
                    change, look = (lambda v: variables.set_array(i, keys, v)), (lambda: variables.array_value(i, keys))
                value = chance.choice((drawn_value(chance, kind), ("int", 0) if kind == "int" else ("str", "")))
                kept = value[1] in (0, "") or place in held or len(held) < cells
                self.assertIs(change(value), kept)
                answers[kept] += 1
                lost += not kept
                if kept:
                    held[place] = value
                    if value[1] in (0, ""):
                        del held[place]
                self.assertEqual(look(), held.get(place, ("int", 0) if kind == "int" else ("str", "")))
                self.assertEqual(variables.lost, lost)
            self.assertEqual(variables.image()[1:], tuple(
                tuple(sorted(place + (value,) for place, value in one.items())) for one in (threads, arrays)))
        self.assertGreater(min(answers.values()), 500)


if __name__ == "__main__":
    unittest.main()
