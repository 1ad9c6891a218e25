"""Point 6.2: code is run, row by row."""

import unittest

from clauses import MEMORY, TICK, VIEW
from stores import Store

from tapline.check import typed_script
from tapline.run_code import run_code

SCRIPT = typed_script("""
int g; str s; int a[int]; str b[str, int]; thread int t; thread str u;
probe tick { @hits = count(); @per[1, "x"] = sum(2); }""")


def number(n):
    return ("int", n)


def text(s):
    return ("str", s)


def run(*rows, kinds=(), view=VIEW, prepare=None, **given):
    store = Store(SCRIPT, **given)
    if prepare is not None:
        prepare(store)
    return run_code((kinds, rows), view, store), store


def consts(values):
    """Rows that put values into the registers from 1 on."""
    return tuple(("const", a, value) for a, value in enumerate(values, 1))


class Values(unittest.TestCase):
    def gives(self, row, value, *values, view=VIEW, prepare=None):
        """The row writes the register 0; values stand in the registers from 1 on."""
        kind = value[0] if isinstance(value, tuple) else "int"
        rows = consts(values) + (row, ("keep", 0, 0), ("record", "say", (0,)), ("end",))
        deeds, _ = run(*rows, kinds=(kind,), view=view, prepare=prepare)
        expected = ("record", None, "say", (value,)) if isinstance(value, tuple) else ("fault", value)
        self.assertEqual(repr(deeds), repr((expected,)), row)

    def test_const(self):
        for value in (number(0), number(-2 ** 63), text(""), text("x y")):
            self.gives(("const", 0, value), value)

    def test_view(self):
        for word, value in (("now", 77), ("cpu", 2), ("pid", 1), ("tid", 3), ("at", 40)):
            self.gives(("view", 0, word), number(value))
        self.gives(("view", 0, "name"), text("entry"))
        self.gives(("view", 0, "name"), text("tick"), view=TICK)
        self.gives(("view", 0, "at"), number(-1), view=TICK)

    def test_arg_and_reg(self):
        for k, (arg, reg) in enumerate(((5, 11), (600, 22), (70, 33), (0, 65535))):
            self.gives(("arg", 0, k), number(arg))
            self.gives(("reg", 0, k), number(reg))
            self.gives(("arg", 0, k), number(0), view=TICK)

    def test_op(self):
        for sign, a, b, n in (("+", 2 ** 63 - 1, 1, -2 ** 63), ("-", 3, 5, -2), ("*", -3, 5, -15), ("/", -7, 2, -4), ("mod", -7, 2, 1)):
            self.gives(("op", 0, sign, 1, 2), number(n), number(a), number(b))
        for sign in ("/", "mod"):
            self.gives(("op", 0, sign, 1, 2), "division", number(6), number(0))
            self.gives(("op", 0, sign, 2, 1), number(0), number(6), number(0))
        self.gives(("op", 0, "-", 1, 1), number(0), number(6))

    def test_compare(self):
        for sign, less, same, more in (("==", 0, 1, 0), ("!=", 1, 0, 1), ("<", 1, 0, 0), ("<=", 1, 1, 0), (">", 0, 0, 1), (">=", 0, 1, 1)):
            for low, high in ((number(-1), number(3)), (number(9), number(10)), (text("10"), text("9")), (text(""), text("a"))):
                self.gives(("compare", 0, sign, 1, 2), number(less), low, high)
                self.gives(("compare", 0, sign, 1, 2), number(same), low, low)
                self.gives(("compare", 0, sign, 2, 1), number(more), low, high)

    def test_plain_rows(self):
        self.gives(("minus", 0, 1), number(-4), number(4))
        self.gives(("minus", 0, 1), number(-2 ** 63), number(-2 ** 63))
        self.gives(("not", 0, 1), number(0), number(4))
        self.gives(("not", 0, 1), number(1), number(0))
        self.gives(("len", 0, 1), number(3), text("abc"))
        self.gives(("cat", 0, 1, 2), text("abcd"), text("ab"), text("cd"))
        self.gives(("cat", 0, 2, 1), text("cdab"), text("ab"), text("cd"))
        self.gives(("cat", 0, 1, 1), "long", text("x" * 17))
        self.gives(("cat", 0, 1, 1), text("x" * 32), text("x" * 16))
        self.gives(("sub", 0, 1, 2, 3), text("bc"), text("abcd"), number(1), number(2))
        self.gives(("sub", 0, 1, 3, 2), text("c"), text("abcd"), number(1), number(2))
        self.gives(("text", 0, 1), text("-9223372036854775808"), number(-2 ** 63))
        self.gives(("byte", 0, 1), number(MEMORY[200]), number(200))
        for at in (-1, 256):
            self.gives(("byte", 0, 1), "byte", number(at))
        self.gives(("byte", 0, 1), "byte", number(0), view=TICK)

    def test_a_row_may_write_what_it_reads(self):
        deeds, _ = run(("const", 1, number(6)), ("op", 1, "*", 1, 1), ("minus", 1, 1), ("text", 1, 1), ("cat", 1, 1, 1), ("keep", 0, 1),
                       ("record", "trace", (0,)), ("end",), kinds=("str",))
        self.assertEqual(deeds, (("record", None, "trace", (text("-36-36"),)),))

    def test_variables(self):
        def prepare(store):
            store.globals[:] = [number(5), text("gl")]
            store.threads = {(3, 0): number(6), (3, 1): text("th"), (0, 0): number(1)}
            store.arrays = {(0, (number(4),)): number(44), (1, (text("k"), number(4))): text("el")}

        for row, value in ((("global", 0, 0), number(5)), (("global", 0, 1), text("gl")), (("thread", 0, 0), number(6)),
                           (("thread", 0, 1), text("th"))):
            self.gives(row, value, prepare=prepare)
        rows = (("const", 0, text("k")), ("keep", 0, 0), ("const", 0, number(4)), ("keep", 1, 0), ("array", 5, 1, (0, 1)),
                ("array", 6, 0, (1,)), ("keep", 0, 5), ("keep", 1, 6), ("record", "trace", (0, 1)), ("end",))
        deeds, store = run(*rows, kinds=("str", "int"), prepare=prepare)
        self.assertEqual(deeds, (("record", None, "trace", (text("el"), number(44))),))
        self.assertEqual(store.log[:2], [("array", 1, (text("k"), number(4)), text("el")), ("array", 0, (number(4),), number(44))])

    def test_registers_and_places_keep_their_values(self):
        rows = tuple(("const", a, number(10 + a)) for a in range(8)) + tuple(("keep", 7 - a, a) for a in range(8))
        rows += tuple(("get", a, a) for a in range(8)) + tuple(("keep", a, a) for a in range(8))
        deeds, _ = run(*rows, ("record", "trace", tuple(range(8))), ("end",), kinds=("int",) * 8)
        self.assertEqual(deeds, (("record", None, "trace", tuple(number(17 - a) for a in range(8))),))


class Ways(unittest.TestCase):
    def records(self, *rows, values=()):
        """What is recorded on the way through rows; ("tell", n) records the place 0 with n."""
        told = []
        for row in rows:
            if row[0] == "tell":
                told.append(("record", "say", (row[1],)))
            else:
                told.append(row)
        begin = consts(values)
        moved = [row[:-1] + (row[-1] + 6 + len(begin),) if row[0] in ("jump", "zero") else row for row in told]
        places = sum([[("const", 0, number(k)), ("keep", k, 0)] for k in range(3)], [])
        deeds, _ = run(*places, *begin, *moved, kinds=("int",) * 3)
        return [deed[3][0][1] if deed[0] == "record" else deed[0] for deed in deeds]

    def test_jump(self):
        self.assertEqual(self.records(("jump", 2), ("tell", 0), ("tell", 1), ("end",)), [1])
        self.assertEqual(self.records(("jump", 1), ("tell", 0), ("tell", 1), ("end",)), [0, 1])
        self.assertEqual(self.records(("jump", 3), ("tell", 0), ("tell", 1), ("end",)), [])

    def test_zero(self):
        for n, told in ((0, [1]), (1, [0, 1]), (-1, [0, 1]), (256, [0, 1])):
            self.assertEqual(self.records(("zero", 1, 2), ("tell", 0), ("tell", 1), ("end",), values=(number(n),)), told)

    def test_skip_end_and_stop(self):
        self.assertEqual(self.records(("skip",), ("tell", 2), ("skip",), ("end",)), [2])
        self.assertEqual(self.records(("tell", 2), ("end",), ("tell", 1), ("end",)), [2])
        self.assertEqual(self.records(("tell", 2), ("stop",), ("tell", 1), ("end",)), [2, "stop"])
        self.assertEqual(self.records(("stop",), ("end",)), ["stop"])
        self.assertEqual(self.records(("end",)), [])

    def test_a_fault_is_the_last_deed(self):
        self.assertEqual(self.records(("tell", 1), ("op", 3, "/", 1, 2), ("tell", 2), ("end",), values=(number(4), number(0))), [1, "fault"])


class Actions(unittest.TestCase):
    def both(self, rows, deeds, log, **given):
        found, store = run(*rows, ("end",), **given)
        self.assertEqual(repr(found), repr(deeds))
        self.assertEqual(repr(store.log), repr(log))

    def test_sets(self):
        rows = (("const", 0, number(4)), ("const", 1, text("w")), ("keep", 0, 1), ("keep", 1, 0), ("setglobal", 0, 0), ("setglobal", 1, 1),
                ("setthread", 0, 0), ("setthread", 1, 1), ("setarray", 0, (1,), 0), ("setarray", 1, (0, 1), 1))
        self.both(rows, (
            ("set", ("global", 0), (), number(4), True), ("set", ("global", 1), (), text("w"), True),
            ("set", ("thread", 0), (), number(4), True), ("set", ("thread", 1), (), text("w"), False),
            ("set", ("array", 0), (number(4),), number(4), False),
            ("set", ("array", 1), (text("w"), number(4)), text("w"), True)), [
            ("set_global", 0, number(4), None), ("set_global", 1, text("w"), None), ("set_thread", 3, 0, number(4), True),
            ("set_thread", 3, 1, text("w"), False), ("set_array", 0, (number(4),), number(4), False),
            ("set_array", 1, (text("w"), number(4)), text("w"), True)], kinds=("str", "int"), lost=(1, 2))

    def test_the_thread_minus_one(self):
        self.both((("const", 0, number(4)), ("setthread", 0, 0), ("thread", 1, 0)), (("set", ("thread", 0), (), number(4), True),), [
            ("set_thread", -1, 0, number(4), True), ("thread", -1, 0, number(4))], view=TICK)

    def test_records(self):
        rows = (("const", 0, number(4)), ("keep", 0, 0), ("const", 0, text("w")), ("keep", 1, 0), ("record", "trace", (1, 0, 1)),
                ("record", "say", ()), ("record", "say", (0,)))
        values = ((text("w"), number(4), text("w")), (), (number(4),))
        self.both(rows, tuple(("record", None, sort, told) for sort, told in zip(("trace", "say", "say"), values)), [
            ("record", None, sort, told, None) for sort, told in zip(("trace", "say", "say"), values)], kinds=("int", "str"))

    def test_puts(self):
        rows = (("const", 0, number(4)), ("keep", 0, 0), ("const", 1, text("w")), ("keep", 1, 1), ("put", 0, (), -1), ("put", 1, (0, 1), 0))
        self.both(rows, (("put", 0, (), None), ("put", 1, (number(4), text("w")), 4)), [
            ("put", 0, (), None, None), ("put", 1, (number(4), text("w")), 4, None)], kinds=("int", "str"))

    def test_speculations(self):
        say = ("record", "say", ())
        rows = (("spec", 0), ("spec", 1), ("spec", 2), say, ("speculate", 1), say, ("speculate", 2), say, ("commit", 1), say, ("discard", 0),
                ("commit", 2), say, ("speculate", 0), say)
        self.both(rows, (
            ("record", None, "say", ()), ("record", 1, "say", ()), ("record", 2, "say", ()), ("commit", 1), ("record", 2, "say", ()),
            ("commit", 2), ("record", None, "say", ())), [
            ("spec", 0), ("spec", 1), ("spec", 2), ("record", None, "say", (), None), ("is_open", 1, True), ("record", 1, "say", (), None),
            ("is_open", 2, True), ("record", 2, "say", (), None), ("is_open", 1, True), ("commit", 1, None), ("record", 2, "say", (), None),
            ("is_open", 2, True), ("commit", 2, None), ("record", None, "say", (), None)], empty=(0,))

    def test_speculations_that_are_not_open(self):
        for word in ("speculate", "commit", "discard"):
            self.both((("const", 3, number(9)), (word, 3), ("stop",)), (("fault", "speculation"),), [
                ("is_open", 9, False), ("fault", "speculation", None)])
        self.both((("const", 3, number(9)), ("discard", 3), ("commit", 3)), (("discard", 9), ("fault", "speculation")), [
            ("is_open", 9, True), ("discard", 9, None), ("is_open", 9, False), ("fault", "speculation", None)], opened=(9,))

    def test_faults_are_told(self):
        self.both((("const", 3, number(0)), ("record", "say", ()), ("op", 1, "mod", 3, 3)), (
            ("record", None, "say", ()), ("fault", "division")), [
            ("record", None, "say", (), None), ("fault", "division", None)])

    def test_code_runs_anew_each_time(self):
        code = (("int",), (("spec", 0), ("speculate", 0), ("record", "say", ()), ("end",)))
        store = Store(SCRIPT)
        self.assertEqual([run_code(code, VIEW, store) for _ in range(2)], [
            (("record", 1, "say", ()),), (("record", 2, "say", ()),)])
        plain = ((), (("record", "say", ()), ("end",)))
        self.assertEqual(run_code(plain, VIEW, store), (("record", None, "say", ()),))


if __name__ == "__main__":
    unittest.main()
