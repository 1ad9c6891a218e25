"""Points 10.1 and 10.2: lines of items, and reading them."""

import random
import re
import unittest

from tapline.errors import BadLine, TapError
from tapline.lines import item_of, line_of

LEAST, GREATEST = -2 ** 63, 2 ** 63 - 1
CHARACTERS = "".join(chr(k) for k in range(32, 127) if k not in (37, 92))
IN_TEXTS = CHARACTERS.replace("\"", "")


def number(n):
    return ("int", n)


def text(s):
    return ("str", s)


def trace(*values, time=5, clause=0):
    return (time, clause, "trace", values)


def say(*values, time=5, clause=0):
    return (time, clause, "say", values)


def fault(word, time=5, clause=0):
    return (time, clause, "fault", (text(word),))


class Writing(unittest.TestCase):
    def test_each_item(self):
        for cpu, item, line in (
                (0, ("lost", 1), "0 lost 1"),
                (3, ("lost", 12345678901234567890), "3 lost 12345678901234567890"),
                (0, trace(), "0 @5 0 trace: "),
                (2, trace(number(7), time=123, clause=45), "2 @123 45 trace: 7"),
                (0, trace(number(-7), text("a b"), number(0)), "0 @5 0 trace: -7, \"a b\", 0"),
                (0, trace(text(""), text("")), "0 @5 0 trace: \"\", \"\""),
                (0, say(), "0 @5 0 say: "),
                (1, say(number(7), text(" is "), number(-8), text(""), text("!"), time=0), "1 @0 0 say: 7 is -8!"),
                (1, say(text("")), "1 @5 0 say: "),
                (0, fault("division"), "0 @5 0 fault: division"),
                (3, fault("long", 9, 2), "3 @9 2 fault: long")):
            self.assertEqual(line_of(cpu, item), line)

    def test_numbers_at_the_bounds(self):
        self.assertEqual(line_of(0, trace(number(LEAST), number(GREATEST))), "0 @5 0 trace: -9223372036854775808, 9223372036854775807")
        self.assertEqual(line_of(0, say(number(LEAST), number(GREATEST))), "0 @5 0 say: -92233720368547758089223372036854775807")

    def test_texts_like_parts_of_lines(self):
        self.assertEqual(line_of(0, trace(text(", "), text("1, 2"), text("0 lost 1"))), "0 @5 0 trace: \", \", \"1, 2\", \"0 lost 1\"")
        self.assertEqual(line_of(0, say(text("0 @5 0 say: "), text(", "))), "0 @5 0 say: 0 @5 0 say: , ")

    def test_all_characters(self):
        self.assertEqual(line_of(0, trace(*[text(c) for c in IN_TEXTS])), "0 @5 0 trace: " + ", ".join(f"\"{c}\"" for c in IN_TEXTS))
        self.assertEqual(line_of(0, say(*[text(c) for c in IN_TEXTS])), "0 @5 0 say: " + IN_TEXTS)

    def test_long_numbers(self):
        many = 10 ** 6000 + 1
        self.assertEqual(line_of(0, ("lost", many)), "0 lost 1" + "0" * 5999 + "1")
        self.assertEqual(item_of("0 lost 1" + "0" * 5999 + "1"), (0, ("lost", many)))


class ReadingBack(unittest.TestCase):
    def test_items(self):
        for cpu, item in ((0, ("lost", 1)), (3, ("lost", 98765432109876543210)), (0, trace()), (12, trace(time=0, clause=0)),
                          (1, trace(number(LEAST), number(GREATEST), number(0), number(-1), time=10 ** 20, clause=999)),
                          (0, trace(text(""))), (0, trace(text(", "), text(","), text(" "), text("1, 2"), text("-0"))),
                          (0, trace(text("q" * 32), number(5))), (0, trace(*[text(c) for c in IN_TEXTS])), (0, trace(text(IN_TEXTS[:32]))),
                          (0, fault("division")), (2, fault("long", 9, 2)), (2, fault("byte")), (2, fault("speculation")), (2, fault("z"))):
            self.assertEqual(item_of(line_of(cpu, item)), (cpu, item))

    def test_a_say_has_one_text(self):
        for item, held in ((say(), ""), (say(text("")), ""), (say(number(7)), "7"), (say(text("a"), number(-1), text(" ")), "a-1 "),
                           (say(*[text("q" * 32)] * 3), "q" * 96), (say(text("trace: "), text("\n"[1:]), text(", 5")), "trace: , 5"),
                           (say(text("  x  ")), "  x  "), (say(*[text(c) for c in IN_TEXTS]), IN_TEXTS)):
            self.assertEqual(item_of(line_of(2, item)), (2, say(text(held))))

    def test_a_say_may_have_quotation_marks(self):
        self.assertEqual(item_of("0 @5 0 say: \"a\" and \""), (0, say(text("\"a\" and \""))))

    def test_words(self):
        self.assertEqual(item_of("0 @5 0 fault: abcdefghijklmnopqrstuvwxyz"), (0, fault("abcdefghijklmnopqrstuvwxyz")))
        self.assertEqual(item_of("0 @5 0 fault: " + "x" * 50), (0, fault("x" * 50)))

    def test_more_values_than_a_trace_has(self):
        self.assertEqual(item_of("0 @5 0 trace: " + ", ".join(["1"] * 40)), (0, trace(*[number(1)] * 40)))

    def test_great_numbers(self):
        self.assertEqual(item_of("99999999999999999999 @99999999999999999999 99999999999999999999 say: "),
                         (10 ** 20 - 1, say(text(""), time=10 ** 20 - 1, clause=10 ** 20 - 1)))
        self.assertEqual(item_of("0 lost 99999999999999999999"), (0, ("lost", 10 ** 20 - 1)))


class Wrong(unittest.TestCase):
    def refused(self, *lines):
        for line in lines:
            with self.subTest(line=line), self.assertRaises(BadLine):
                item_of(line)

    def test_the_error(self):
        with self.assertRaises(TapError):
            item_of("")

    def test_nothing_much(self):
        self.refused("", " ", "\n", "0", "0 ", "x", "0 lost", "0 @5", "0 @5 0", "0 @5 0 trace", "lost 1", "@5 0 say: x")

    def test_processors(self):
        for cpu in ("", "00", "01", "-1", "-0", "+1", "x", "1x", " 0", "0 ", "1.0", "1_0", "\u0661", "0\n"):
            self.refused(cpu + " lost 1", cpu + " @5 0 trace: 1", cpu + " @5 0 say: x", cpu + " @5 0 fault: byte")

    def test_numbers_of_lost_records(self):
        for n in ("", "0", "00", "01", "-1", "+1", "x", "1 ", " 1", "1\n", "1 2", "1_0", "\u0661"):
            self.refused("0 lost " + n)
        self.refused("0 lost1", "0  lost 1", "0 lost  1", "0 Lost 1", "0 LOST 1", "0 lose 1", "0 @lost 1", "0lost 1", "0 lost: 1", "0 lost 1 say: x")

    def test_times(self):
        for time in ("", "00", "05", "-5", "+5", "x", "5x", " 5", "5 ", "5.0", "1_0", "\u0665", "@5"):
            self.refused(f"0 @{time} 0 trace: 1", f"0 @{time} 0 say: x", f"0 @{time} 0 fault: byte")
        self.refused("0 5 0 trace: 1", "0 #5 0 trace: 1", "0 @ 5 0 trace: 1", "0@5 0 trace: 1")

    def test_clauses(self):
        for clause in ("", "00", "05", "-5", "+5", "x", "5x", " 5", "5 ", "1_0", "\u0665"):
            self.refused(f"0 @5 {clause} trace: 1", f"0 @5 {clause} say: x", f"0 @5 {clause} fault: byte")

    def test_sorts(self):
        for sort in ("", "Trace", "traces", "trac", "record", "put", "lost", "SAY", "says", "faults", " trace", "trace "):
            self.refused(f"0 @5 0 {sort}: 1", f"0 @5 0 {sort}: byte", f"0 @5 0 {sort}:")
        self.refused("0 @5 0 trace 1", "0 @5 0 trace; 1", "0 @5 0 trace:", "0 @5 0 say:", "0 @5 0 fault:", "0 @5 0 trace:1", "0 @5 0 say:x",
                     "0 @5 0 fault:byte", "0 @5 0 trace:: 1", "0 @5 0 : 1", "0 @5 trace: 1", "0 @5 0 0 trace: 1")

    def test_numbers(self):
        for n in ("00", "01", "-0", "-01", "--1", "+1", "1x", "x", "-", "- 1", "1 ", "1_0", "0x1", "1.5", "\u0661", "9223372036854775808",
                  "-9223372036854775809", "10000000000000000000000", "1" * 5000, "1\n", "'1'", "now"):
            self.refused(f"0 @5 0 trace: {n}", f"0 @5 0 trace: {n}, 1", f"0 @5 0 trace: 1, {n}", f"0 @5 0 trace: \"a\", {n}")

    def test_texts(self):
        for s in ("\"", "\"a", "a\"", "a", "\"\"\"", "\"a\"b", "\"a\"\"b\"", "\"" + "q" * 33 + "\"", "\"a\nb\"", "\"a\tb\"", "\"a\\b\"", "\"a%b\"",
                  "\"\u00e9\"", "\"\x7f\"", "\"\x00\"", "\"a\" ", "\"a\"\n", "'a'", "\"a\";"):
            self.refused(f"0 @5 0 trace: {s}", f"0 @5 0 trace: {s}, 1", f"0 @5 0 trace: 1, {s}", f"0 @5 0 trace: \"x\", {s}")

    def test_what_separates_values(self):
        self.refused("0 @5 0 trace: 1,2", "0 @5 0 trace: 1 2", "0 @5 0 trace: 1  2", "0 @5 0 trace: 1,  2", "0 @5 0 trace: 1 , 2", "0 @5 0 trace: 1; 2",
                     "0 @5 0 trace: 1,", "0 @5 0 trace: 1, ", "0 @5 0 trace: , 1", "0 @5 0 trace: ,", "0 @5 0 trace: , ", "0 @5 0 trace: 1, , 2",
                     "0 @5 0 trace: 1,, 2", "0 @5 0 trace:  1", "0 @5 0 trace:  ", "0 @5 0 trace: \"a\",\"b\"", "0 @5 0 trace: \"a\" \"b\"",
                     "0 @5 0 trace: \"a\"\"b\"", "0 @5 0 trace: \"a\", ", "0 @5 0 trace: \"a\",", "0 @5 0 trace: \"a\"1", "0 @5 0 trace: 1\"a\"")

    def test_texts_of_says(self):
        self.refused(*[f"0 @5 0 say: a{c}b" for c in "\n\t%\\\x00\x7f\u00e9\u2028\r"], "0 @5 0 say: \n", "0 @5 0 say: x\n")

    def test_words(self):
        for word in ("", " ", "Byte", "bYte", "BYTE", "byte1", "1", "two words", "byte ", " byte", "by-te", "byte\n", "\u00e9", "\"byte\"", "by_te", "{", "`"):
            self.refused("0 @5 0 fault: " + word)

    def test_doubled_and_missing_spaces(self):
        for line in ("0 lost 1", "0 @5 0 trace: 1, \"a\"", "0 @5 0 fault: byte"):
            for k in [k for k, c in enumerate(line) if c == " "]:
                self.refused(line[:k] + " " + line[k:], line[:k] + line[k + 1:], line[:k] + "\t" + line[k + 1:])
            self.refused(" " + line, line + " ", line + "\n", "\n" + line)
        for line in ("0 @5 0 say: x",):
            for k in [k for k, c in enumerate(line[:10]) if c == " "]:
                self.refused(line[:k] + " " + line[k:], line[:k] + line[k + 1:])


NATURAL = "(0|[1-9][0-9]*)"
SHOWN = "(0|-?[1-9][0-9]*|\"[^\"]{0,32}\")"
FORMS = (
    (f"{NATURAL} lost ([1-9][0-9]*)", "lost"),
    (f"{NATURAL} @{NATURAL} {NATURAL} trace: ({SHOWN}(, {SHOWN})*)?", "trace"),
    (f"{NATURAL} @{NATURAL} {NATURAL} say: (.*)", "say"),
    (f"{NATURAL} @{NATURAL} {NATURAL} fault: ([a-z]+)", "fault"),
)


def second_item(line):
    """The item of a line by regular expressions, or None."""
    for form, sort in FORMS:
        found = re.fullmatch(form, line, re.ASCII)
        if found is None or not set(line) <= set(CHARACTERS):
            continue
        if sort == "lost":
            return int(found[1]), ("lost", int(found[2]))
        values = (("str", found[4]),)
        if sort == "trace":
            values = tuple(("str", one[1:-1]) if one[0] == "\"" else ("int", int(one)) for one in re.findall(SHOWN, found[4] or ""))
        if sort == "trace" and any(kind == "int" and not LEAST <= held <= GREATEST for kind, held in values):
            return None
        return int(found[1]), (int(found[2]), int(found[3]), sort, values)
    return None


class Compared(unittest.TestCase):
    def test_drawn_lines_with_changes(self):
        chance = random.Random(4)
        right = {"lost": 0, "trace": 0, "say": 0, "fault": 0, None: 0}
        for _ in range(12000):
            line = line_of(chance.choice((0, 1, 10)), drawn_item(chance))
            for _ in range(chance.choice((0, 1, 1, 1, 2, 4))):
                k = chance.randrange(len(line) + 1)
                more = chance.choice(("", " ", "0", "1", "-", ",", ", ", "\"", "@", ":", "x", "A", "\n", "%", "9" * 19))
                line = line[:k] + more + line[k + chance.choice((0, 0, 1, 2)):]
            expected = second_item(line)
            if expected is None:
                with self.assertRaises(BadLine, msg=line):
                    item_of(line)
                right[None] += 1
            else:
                self.assertEqual(item_of(line), expected, line)
                right["lost" if expected[1][0] == "lost" else expected[1][2]] += 1
                if expected[1][0] == "lost" or expected[1][2] != "say" or "\"" not in line:
                    self.assertEqual(line_of(*expected), line)
        self.assertGreater(min(right.values()), 500, right)


def drawn_item(chance):
    sort = chance.choice(("lost", "trace", "trace", "say", "fault"))
    if sort == "lost":
        return ("lost", chance.choice((1, 2, 10, 305)))
    if sort == "fault":
        values = (text(chance.choice(("long", "byte", "division", "speculation"))),)
    else:
        values = tuple(chance.choice((number(chance.choice((0, 1, -1, 10, LEAST, GREATEST))), text(chance.choice(("", "a", ", ", "1, 2", "q" * 32)))))
                       for _ in range(chance.choice((0, 1, 2, 3))))
    return (chance.choice((0, 7, 120)), chance.choice((0, 3, 11)), sort, values)


if __name__ == "__main__":
    unittest.main()
