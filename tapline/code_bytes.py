"""Code is written as bytes, and read from them."""

from tapline.characters import TEXT_CHARACTERS
from tapline.code import WORDS
from tapline.errors import BadBytes
from tapline.forms import fits
from tapline.kinds import INT, STR
from tapline.limits import GREATEST, RANGE
from tapline.row_parts import CHOICES, LISTED, PARTS, parts_of

KINDS = ("int", "str")
REGISTERS = ("into", "from", "optional")
NO_REGISTER = 255
WIDTH = 8


def write_bytes(code):
    """The list of the bytes of code."""
    kinds, rows = code
    written = written_count(len(kinds)) + [KINDS.index(kind) for kind in kinds] + written_count(len(rows))
    for row in rows:
        written.append(WORDS.index(row[0]))
        for part, thing in parts_of(row):
            written.extend(written_part(part, thing))
    return written


def written_part(part, thing):
    if part in CHOICES:
        return [CHOICES[part].index(thing)]
    if part in REGISTERS:
        return [thing % 256]
    if part == "value":
        return written_value(thing)
    if part in LISTED:
        written = written_count(len(thing))
        for place in thing:
            written.extend(written_count(place))
        return written
    return written_count(thing)


def written_count(n):
    """A number from 0 on, seven bits to the byte, the lowest first."""
    written = []
    while n >= 128:
        n, low = divmod(n, 128)
        written.append(128 + low)
    return written + [n]


def written_value(value):
    kind, held = value
    if kind == STR:
        return [1] + written_count(len(held)) + [ord(character) for character in held]
    written = [0]
    rest = held % RANGE
    for _ in range(WIDTH):
        rest, low = divmod(rest, 256)
        written.append(low)
    return written


def read_bytes(row):
    """The code that a row of bytes writes; raises BadBytes."""
    return ByteReader(row).read_code()


class ByteReader:
    """Reads code from a row of bytes."""

    def __init__(self, row):
        self.row = row
        self.place = 0

    def take(self):
        """The next byte."""
        if self.place == len(self.row):
            raise BadBytes()
        self.place += 1
        return self.row[self.place - 1]

    def choose(self, words):
        """The word of a row of words whose index comes next."""
        k = self.take()
        if k >= len(words):
            raise BadBytes()
        return words[k]

    def read_code(self):
        kinds = tuple([self.choose(KINDS) for _ in range(self.read_count())])
        rows = tuple([self.read_row() for _ in range(self.read_count())])
        if self.place < len(self.row):
            raise BadBytes()
        return kinds, rows

    def read_row(self):
        word = self.choose(WORDS)
        row = [word]
        for part in PARTS[word]:
            thing = self.read_part(part)
            if not fits(part, thing, None):
                raise BadBytes()
            row.append(thing)
        return tuple(row)

    def read_part(self, part):
        """What comes next for a part; it may be out of bounds."""
        if part in CHOICES:
            return self.choose(CHOICES[part])
        if part in REGISTERS:
            return self.read_register()
        if part == "value":
            return self.read_value()
        if part in LISTED:
            return tuple([self.read_count() for _ in range(self.read_count())])
        return self.read_count()

    def read_count(self):
        n = 0
        weight = 1
        while True:
            byte = self.take()
            n += byte % 128 * weight
            if byte < 128:
                break
            weight *= 128
        if byte == 0 and weight > 1:
            raise BadBytes()
        return n

    def read_register(self):
        byte = self.take()
        if byte == NO_REGISTER:
            return -1
        return byte

    def read_value(self):
        if self.choose(KINDS) == INT:
            return (INT, self.read_number())
        return (STR, self.read_held())

    def read_number(self):
        n = 0
        weight = 1
        for _ in range(WIDTH):
            n += self.take() * weight
            weight *= 256
        if n > GREATEST:
            return n - RANGE
        return n

    def read_held(self):
        """The characters of a text."""
        by_code = {ord(character): character for character in TEXT_CHARACTERS}
        held = []
        for _ in range(self.read_count()):
            byte = self.take()
            if byte not in by_code:
                raise BadBytes()
            held.append(by_code[byte])
        return "".join(held)
