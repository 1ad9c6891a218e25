"""Points 1.1 to 1.4: texts and tokens."""

import unittest

from tapline.errors import BadCharacter, BadNumber, BadQuote
from tapline.tokens import KEYWORDS, tokens

WORDS = """int str thread probe when trace say speculate commit discard stop count sum least most hist
self now cpu pid tid at name len cat sub text byte spec mod arg0 arg1 arg2 arg3 r0 r1 r2 r3"""
SIGNS = "{ } ( ) [ ] , ; : . @ ? = ! + - * / < <= > >= == != && ||"
MARK = '"'


def cut(text):
    """The kinds and texts of the tokens, without the end."""
    return [(kind, word) for kind, word, _, _ in tokens(text)[:-1]]


class Kinds(unittest.TestCase):
    def test_keywords_in_their_order(self):
        self.assertEqual(KEYWORDS, tuple(WORDS.split()))

    def test_each_keyword_is_one(self):
        for word in WORDS.split():
            self.assertEqual(tokens(word)[0], ("keyword", word, 1, 1))

    def test_what_begins_or_ends_like_a_keyword_is_a_name(self):
        for word in WORDS.split():
            for name in (word + "x", word + "_", word + "0", "x" + word, word.upper(), word[:1] + "_" + word[1:]):
                self.assertEqual(cut(name), [("name", name)])

    def test_names(self):
        for name in ("a", "z", "A", "Z", "a_", "Az09_", "r4", "arg", "arg4", "arg10", "mods", "x" * 300):
            self.assertEqual(cut(name), [("name", name)])

    def test_numbers(self):
        for number in ("0", "1", "9", "10", "1234567890", "9223372036854775807", "999999999999999999"):
            self.assertEqual(cut(number), [("number", number)])

    def test_each_sign(self):
        for sign in SIGNS.split():
            self.assertEqual(tokens(sign), [("sign", sign, 1, 1), ("end", "", 1, 1 + len(sign))])

    def test_of_two_signs_the_longer_one(self):
        for text, signs in (("<==", "<= ="), ("===", "== ="), ("!==", "!= ="), ("=!=", "= !="),
                            ("<<=", "< <="), (">>=", "> >="), ("&&&&", "&& &&"), ("||||", "|| ||"), ("!!=", "! !="),
                            ("=<", "= <"), ("=>", "= >"), ("<>", "< >"), ("--", "- -"), ("++", "+ +"),
                            ("=====", "== == ="), ("<=>=", "<= >="), ("-=", "- ="), ("< =", "< ="), ("! =", "! =")):
            with self.subTest(text=text):
                self.assertEqual(cut(text), [("sign", sign) for sign in signs.split()])

    def test_all_signs_side_by_side(self):
        signs = SIGNS.split()
        text = "".join(signs[:-8]) + " " + "&&||<=>===!=<>"
        expected = signs[:-8] + ["&&", "||", "<=", ">=", "==", "!=", "<", ">"]
        self.assertEqual(cut(text), [("sign", sign) for sign in expected])

    def test_tokens_without_spaces(self):
        self.assertEqual(tokens('a1+2*-b["x"]'), [
            ("name", "a1", 1, 1), ("sign", "+", 1, 3), ("number", "2", 1, 4), ("sign", "*", 1, 5), ("sign", "-", 1, 6),
            ("name", "b", 1, 7), ("sign", "[", 1, 8), ("text", "x", 1, 9), ("sign", "]", 1, 12), ("end", "", 1, 13)])

    def test_texts(self):
        for inner in ("", "x", "int", " ", "# no comment", "12", "x" * 32, "!#$&'()*+,-./:;<=>?@[]^_`{|}~"):
            self.assertEqual(tokens(MARK + inner + MARK),
                             [("text", inner, 1, 1), ("end", "", 1, len(inner) + 3)])

    def test_each_character_of_a_text(self):
        for code in range(32, 127):
            character = chr(code)
            if character not in '%\\"':
                self.assertEqual(cut(MARK + character + MARK), [("text", character)])

    def test_texts_side_by_side(self):
        self.assertEqual(tokens('"a""b"""'), [
            ("text", "a", 1, 1), ("text", "b", 1, 4), ("text", "", 1, 7), ("end", "", 1, 9)])

    def test_the_list_is_new_each_time(self):
        first = tokens("a")
        first.append("x")
        self.assertEqual(tokens("a"), [("name", "a", 1, 1), ("end", "", 1, 2)])
        self.assertIsInstance(first, list)
        self.assertTrue(all(isinstance(token, tuple) for token in tokens("a + 1")))


class Places(unittest.TestCase):
    def test_rows_and_columns(self):
        self.assertEqual(tokens("a\n  b c\n\n   d"), [
            ("name", "a", 1, 1), ("name", "b", 2, 3), ("name", "c", 2, 5), ("name", "d", 4, 4), ("end", "", 4, 5)])

    def test_comments(self):
        self.assertEqual(tokens("a # b c\nd#\n#\n  e"), [
            ("name", "a", 1, 1), ("name", "d", 2, 1), ("name", "e", 4, 3), ("end", "", 4, 4)])

    def test_a_comment_is_not_examined(self):
        self.assertEqual(tokens('a # 01 % \\ & | " \t \r \x00 \u00e9 # $\nb'), [
            ("name", "a", 1, 1), ("name", "b", 2, 1), ("end", "", 2, 2)])

    def test_a_comment_separates_tokens(self):
        self.assertEqual(cut("ab#\ncd"), [("name", "ab"), ("name", "cd")])

    def test_the_end(self):
        for text, row, column in (("", 1, 1), (" ", 1, 2), ("   ", 1, 4), ("\n", 2, 1), ("a\n", 2, 1), ("a\n\n", 3, 1),
                                  ("a\n ", 2, 2), ("#", 1, 2), ("# abc", 1, 6), ("a # b", 1, 6), ("a # b\n", 2, 1),
                                  ("\n# b", 2, 4), ("ab", 1, 3)):
            with self.subTest(text=text):
                self.assertEqual(tokens(text)[-1], ("end", "", row, column))


class Wrong(unittest.TestCase):
    def raises(self, text, error, row, column):
        with self.subTest(text=text):
            with self.assertRaises(error) as caught:
                tokens(text)
            self.assertIs(type(caught.exception), error)
            self.assertEqual((caught.exception.row, caught.exception.column), (row, column))

    def everywhere(self, bad, error):
        """The bad thing as all of a text, and at its first, a middle and its last place."""
        self.raises(bad, error, 1, 1)
        self.raises(bad + " a b", error, 1, 1)
        self.raises("a +\n  b # c\n " + bad + " ;\n d", error, 3, 2)
        self.raises("a b " + bad, error, 1, 5)
        self.raises("a b\n" + bad + "\n", error, 2, 1)

    def test_numbers(self):
        for bad in ("9223372036854775808", "00", "01", "007", "12a", "1_000", "0x", "1a2", "9_",
                    "09223372036854775807", "10000000000000000000", "9" * 19, "9" * 20, "1" * 5000):
            self.everywhere(bad, BadNumber)

    def test_a_number_ends_before_what_is_no_word(self):
        self.assertEqual(cut("1.2"), [("number", "1"), ("sign", "."), ("number", "2")])
        self.assertEqual(cut("0-0"), [("number", "0"), ("sign", "-"), ("number", "0")])
        self.raises("12\u00e9", BadCharacter, 1, 3)
        self.raises("1\u0663", BadCharacter, 1, 2)

    def test_quotes(self):
        for bad in (MARK, MARK + "abc", MARK + "x" * 33 + MARK, MARK + "a\tb" + MARK, MARK + "\u00e9" + MARK,
                    MARK + "50%" + MARK, MARK + "\\" + MARK, MARK + "\r" + MARK, MARK + "\x7f" + MARK,
                    MARK + "x" * 40):
            self.raises(bad, BadQuote, 1, 1)
            self.raises("a +\n  b # c\n " + bad, BadQuote, 3, 2)
            self.raises(bad + "\n a b", BadQuote, 1, 1)
            self.raises("a b\n" + bad + "\n", BadQuote, 2, 1)

    def test_quotes_that_are_closed_in_their_row_only(self):
        self.raises('"ab\ncd"', BadQuote, 1, 1)
        self.raises('"ab\n"', BadQuote, 1, 1)
        self.raises('a "b" "c\n"', BadQuote, 1, 7)
        self.raises('a "b" c"', BadQuote, 1, 8)

    def test_the_mark_of_a_comment_in_a_text(self):
        self.assertEqual(cut('"a#b" c'), [("text", "a#b"), ("name", "c")])
        self.raises('"a #b', BadQuote, 1, 1)

    def test_characters(self):
        for bad in ("&", "|", "%", "\\", "$", "'", "^", "_", "`", "~", "\t", "\r", "\x00", "\x7f", "\u00e9",
                    "\u0663", "\u00b2", "\u00a0", "\u2028", "\x0b", "\x0c", "_a"):
            self.everywhere(bad, BadCharacter)

    def test_each_character_that_begins_no_token(self):
        for code in range(0, 300):
            character = chr(code)
            if character in ' \n#"' or character in "".join(SIGNS.split()).replace("&", "").replace("|", ""):
                continue
            if code < 128 and character.isalnum():
                continue
            self.raises(character, BadCharacter, 1, 1)

    def test_lone_signs(self):
        self.raises("a & b", BadCharacter, 1, 3)
        self.raises("a &&& b", BadCharacter, 1, 5)
        self.raises("a | | b", BadCharacter, 1, 3)
        self.raises("a ||| b", BadCharacter, 1, 5)
        self.raises("a &| b", BadCharacter, 1, 3)

    def test_a_character_right_behind_a_token(self):
        self.raises("ab$", BadCharacter, 1, 3)
        self.raises("12%", BadCharacter, 1, 3)
        self.raises('"x"\\', BadCharacter, 1, 4)
        self.raises("a%2", BadCharacter, 1, 2)

    def test_the_first_of_two_errors(self):
        self.raises("01 $", BadNumber, 1, 1)
        self.raises("$ 01", BadCharacter, 1, 1)
        self.raises('"abc $ 01', BadQuote, 1, 1)
        self.raises('$ "abc', BadCharacter, 1, 1)
        self.raises('01 "abc', BadNumber, 1, 1)
        self.raises('"%" 01', BadQuote, 1, 1)
        self.raises("a\n  01\n$", BadNumber, 2, 3)
        self.raises("# 01\n$ 02", BadCharacter, 2, 1)

    def test_none_in_a_comment(self):
        self.assertEqual(tokens('#01 $ "'), [("end", "", 1, 8)])


if __name__ == "__main__":
    unittest.main()
