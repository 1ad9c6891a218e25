"""Expressions are parsed."""

from tapline.cursor import Cursor
from tapline.levels import COMPARE_LEVEL, MINUS_LEVEL, SIGN_LEVELS

PLAIN_WORDS = ("now", "cpu", "pid", "tid", "at", "name")
ASKED = ("len", "cat", "sub", "text", "byte", "spec")
NUMBERED = {
    "arg0": ("arg", 0), "arg1": ("arg", 1), "arg2": ("arg", 2), "arg3": ("arg", 3),
    "r0": ("reg", 0), "r1": ("reg", 1), "r2": ("reg", 2), "r3": ("reg", 3),
}
JOINING = {"||": "or", "&&": "and"}
PREFIXES = {"-": "minus", "!": "not"}


class ExprReader(Cursor):
    """Reads the expressions of a text."""

    def read_expr(self):
        first = self.read_row(1)
        if not self.skip("?"):
            return first
        yes = self.read_expr()
        self.need(":")
        return ("if", first, yes, self.read_expr())

    def read_row(self, least):
        """A row of operators whose levels are at least this one."""
        left = self.read_unary()
        most = MINUS_LEVEL
        while True:
            sign = self.fixed()
            level = SIGN_LEVELS.get(sign, -1)
            if level < least or level > most:
                return left
            self.skip(sign)
            left = joined_by(sign, left, self.read_row(level + 1))
            # What binds more strongly was taken by the right side as far as the grammar allows it.
            most = level
            if level == COMPARE_LEVEL:
                most = level - 1

    def read_unary(self):
        signs = []
        while self.fixed() in PREFIXES:
            signs.append(self.choose(("-", "!")))
        expr = self.read_primary()
        for sign in reversed(signs):
            expr = (PREFIXES[sign], expr)
        return expr

    def read_primary(self):
        if self.kind() == "number":
            return ("int", int(self.take("number")))
        if self.kind() == "text":
            return ("str", self.take("text"))
        word = self.fixed()
        if word in PLAIN_WORDS:
            return ("word", self.choose(PLAIN_WORDS))
        if word in NUMBERED:
            self.skip(word)
            return NUMBERED[word]
        if word in ASKED:
            return ("ask", self.choose(ASKED), self.read_values())
        if self.skip("("):
            expr = self.read_expr()
            self.need(")")
            return expr
        return self.read_place()

    def read_place(self):
        if self.skip("self"):
            self.need(".")
            return ("self", self.take("name"))
        name = self.take("name")
        if self.fixed() == "[":
            return ("cell", name, self.read_keys())
        return ("var", name)

    def read_keys(self):
        """One or more expressions in brackets."""
        self.need("[")
        keys = self.listed(self.read_expr)
        self.need("]")
        return keys

    def read_values(self):
        """Any number of expressions in parentheses."""
        self.need("(")
        if self.skip(")"):
            return ()
        values = self.listed(self.read_expr)
        self.need(")")
        return values


def joined_by(sign, left, right):
    if sign in JOINING:
        return (JOINING[sign], left, right)
    return ("op", sign, left, right)
