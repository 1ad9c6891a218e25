"""Code is written as a text, and read from it."""

from tapline.decimals import decimal, natural_in, whole_in
from tapline.errors import BadText
from tapline.forms import fits
from tapline.row_parts import CHOICES, LISTED, PARTS, parts_of

PLACE_ROWS = {"place int": "int", "place str": "str"}


def write_text(code):
    """The text of code, a row for each place and each row of it."""
    kinds, rows = code
    written = [f"place {kind}" for kind in kinds] + [written_row(row) for row in rows]
    return "".join([row + "\n" for row in written])


def written_row(row):
    return " ".join([row[0]] + [written_part(part, thing) for part, thing in parts_of(row)])


def written_part(part, thing):
    if part in CHOICES:
        return thing
    if part == "value":
        return written_value(thing)
    if part in LISTED:
        return " ".join([decimal(number) for number in (len(thing),) + thing])
    return decimal(thing)


def written_value(value):
    kind, held = value
    if kind == "int":
        return f"int {decimal(held)}"
    return f"str {len(held)} '{held}"


def read_text(text):
    """The code that a text writes; raises BadText with the number of the first wrong row."""
    written = text.split("\n")
    kinds = []
    rows = []
    for k, line in enumerate(written[:-1]):
        if line in PLACE_ROWS and not rows:
            kinds.append(PLACE_ROWS[line])
            continue
        row = RowReader(line).read_row()
        if row is None:
            raise BadText(k + 1)
        rows.append(row)
    # Behind the newline of the last row nothing follows.
    if written[-1] != "":
        raise BadText(len(written))
    return tuple(kinds), tuple(rows)


class RowReader:
    """Reads a row of code from a line; what it gives is None where the line is wrong."""

    def __init__(self, line):
        self.words = line.split(" ")
        self.place = 0

    def take(self):
        """The next word, or the empty one, which is no part of a row, behind the last."""
        if self.place == len(self.words):
            return ""
        self.place += 1
        return self.words[self.place - 1]

    def read_row(self):
        word = self.take()
        if word not in PARTS:
            return None
        row = [word]
        for part in PARTS[word]:
            thing = self.read_part(part)
            if not fits(part, thing, None):
                return None
            row.append(thing)
        if self.place < len(self.words):
            return None
        return tuple(row)

    def read_part(self, part):
        """What stands at the next place for a part; it may be wrong or out of bounds."""
        if part in CHOICES:
            return self.take()
        if part == "value":
            return self.read_value()
        if part in LISTED:
            return self.read_places()
        return whole_in(self.take())

    def read_places(self):
        many = natural_in(self.take())
        if many is None:
            return None
        places = []
        while len(places) < many:
            place = natural_in(self.take())
            if place is None:
                return None
            places.append(place)
        return tuple(places)

    def read_value(self):
        kind = self.take()
        if kind == "int":
            return (kind, whole_in(self.take()))
        return (kind, self.read_held())

    def read_held(self):
        """The characters of a text; spaces among them separate nothing, and the row ends with them."""
        many = natural_in(self.take())
        rest = " ".join(self.words[self.place:])
        self.place = len(self.words)
        if many is None or not rest.startswith("'") or len(rest) != many + 1:
            return None
        return rest[1:]
