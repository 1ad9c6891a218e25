"""A place in the row of tokens that is being parsed."""

from tapline.errors import Unexpected
from tapline.tokens import tokens


class Cursor:
    """The tokens of a text, and which of them is the next one."""

    def __init__(self, text):
        self.coming = tokens(text)
        self.place = 0

    def kind(self):
        """The kind of the next token."""
        return self.coming[self.place][0]

    def fixed(self):
        """The next token, if it is a keyword or a sign, otherwise the empty string."""
        kind, word, _, _ = self.coming[self.place]
        if kind in ("keyword", "sign"):
            return word
        return ""

    def refuse(self):
        """Raises the error for the next token."""
        _, _, row, column = self.coming[self.place]
        raise Unexpected(row, column)

    def take(self, kind):
        """The text of the next token, which must be of this kind; goes on."""
        if self.kind() != kind:
            self.refuse()
        word = self.coming[self.place][1]
        self.place += 1
        return word

    def skip(self, word):
        """Tells whether the next token is this keyword or sign, and goes on if it is."""
        if self.fixed() != word:
            return False
        self.place += 1
        return True

    def need(self, word):
        """Goes on behind this keyword or sign, which must come next."""
        if not self.skip(word):
            self.refuse()

    def choose(self, words):
        """The next token, which must be one of these keywords or signs; goes on."""
        word = self.fixed()
        if word not in words:
            self.refuse()
        self.place += 1
        return word

    def listed(self, read_one):
        """The tuple of one or more parts with commas between them, each of which is read by a method."""
        parts = [read_one()]
        while self.skip(","):
            parts.append(read_one())
        return tuple(parts)
