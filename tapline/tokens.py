"""Texts are cut into tokens."""

from tapline.characters import in_script, in_word, is_digit, is_letter
from tapline.errors import BadCharacter, BadNumber, BadQuote
from tapline.limits import GREATEST, LONGEST, MOST_DIGITS

KEYWORDS = (
    "int", "str", "thread", "probe", "when", "trace", "say", "speculate", "commit", "discard", "stop",
    "count", "sum", "least", "most", "hist", "self", "now", "cpu", "pid", "tid", "at", "name",
    "len", "cat", "sub", "text", "byte", "spec", "mod",
    "arg0", "arg1", "arg2", "arg3", "r0", "r1", "r2", "r3",
)

LONG_SIGNS = ("<=", ">=", "==", "!=", "&&", "||")
SHORT_SIGNS = (
    "{", "}", "(", ")", "[", "]", ",", ";", ":", ".", "@", "?", "=", "!", "+", "-", "*", "/", "<", ">",
)


def tokens(text):
    """The list of the tokens (kind, text, row, column) of a text, the end token last."""
    found = []
    at = 0
    row = 1
    begin = 0
    while True:
        at, row, begin = skip_blank(text, at, row, begin)
        column = at - begin + 1
        if at == len(text):
            found.append(("end", "", row, column))
            return found
        kind, inner, at = cut_token(text, at, row, column)
        found.append((kind, inner, row, column))


def skip_blank(text, at, row, begin):
    """Goes over spaces, newlines and comments: the index behind them, its row, and where that row begins."""
    while at < len(text):
        if text[at] == "#":
            at = row_end(text, at)
        elif text[at] == "\n":
            at += 1
            row += 1
            begin = at
        elif text[at] == " ":
            at += 1
        else:
            break
    return at, row, begin


def row_end(text, at):
    """The index of the next newline, or the end of the text."""
    end = text.find("\n", at)
    if end < 0:
        return len(text)
    return end


def cut_token(text, at, row, column):
    """The token that begins at an index: its kind, its text, and the index behind it."""
    first = text[at]
    if is_letter(first):
        end = word_end(text, at)
        word = text[at:end]
        if word in KEYWORDS:
            return "keyword", word, end
        return "name", word, end
    if is_digit(first):
        end = word_end(text, at)
        if not is_number(text[at:end]):
            raise BadNumber(row, column)
        return "number", text[at:end], end
    if first == "\"":
        close = text.find("\"", at + 1)
        if not is_quoted(text, at + 1, close):
            raise BadQuote(row, column)
        return "text", text[at + 1:close], close + 1
    if text[at:at + 2] in LONG_SIGNS:
        return "sign", text[at:at + 2], at + 2
    if first in SHORT_SIGNS:
        return "sign", first, at + 1
    raise BadCharacter(row, column)


def word_end(text, at):
    while at < len(text) and in_word(text[at]):
        at += 1
    return at


def is_number(word):
    if len(word) > MOST_DIGITS or not all(is_digit(character) for character in word):
        return False
    if word[0] == "0":
        return word == "0"
    return int(word) <= GREATEST


def is_quoted(text, at, close):
    """Tells whether the part from an index up to a quotation mark is a text; -1 if there is no mark."""
    if close < 0 or close - at > LONGEST:
        return False
    # A newline is no character of a text, so a mark in a later row closes nothing.
    return all(in_script(character) for character in text[at:close])
