"""The judge: which code may be run."""

from tapline.code import following, reads_places, writes
from tapline.forms import has_form
from tapline.kinds import INT, STR
from tapline.row_kinds import NEEDS, kind_given, variable_kind
from tapline.row_parts import LISTED, operands_of, parts_of

# Where the script has what a part names by an index.
IN_SCRIPT = {"global": 0, "array": 1, "thread": 2, "table": 3}
# The variables that rows set.
SETTING = {"setglobal": "global", "setthread": "thread", "setarray": "array"}


def may_run(code, script, own):
    """Tells whether the judge takes code for a clause of a script whose locals have these kinds."""
    if not has_form(code, None):
        return False
    kinds, rows = code
    if kinds[:len(own)] != own or not rows or rows[-1] != ("end",):
        return False
    if not all([row_fits(row, len(kinds), script) for row in rows]):
        return False
    if not all([leads_forward(row, r, len(rows)) for r, row in enumerate(rows)]):
        return False
    return all_is_set(code, script)


def row_fits(row, places, script):
    """Tells whether the code has the places of a row, and the script what the row names."""
    for part, thing in parts_of(row):
        if part in ("place", "slot") and thing >= places:
            return False
        if part in LISTED and not all([place < places for place in thing]):
            return False
        if part in IN_SCRIPT and thing >= len(script[IN_SCRIPT[part]]):
            return False
    return keys_fit(row, script)


def keys_fit(row, script):
    """Tells whether a row has as many keys as its array or table, and a number if the function takes one."""
    places, kinds = keys_of(row, script)
    if len(places) != len(kinds):
        return False
    return row[0] != "put" or (row[3] < 0) == (script[3][row[1]][2] == "count")


def keys_of(row, script):
    """The places of a row's keys, and the kinds that the script gives these keys."""
    word = row[0]
    if word == "array":
        return row[3], script[1][row[2]][1]
    if word == "setarray":
        return row[2], script[1][row[1]][1]
    if word == "put":
        return row[2], script[3][row[1]][1]
    return (), ()


def leads_forward(row, r, many):
    """Tells whether a row is no jump or zero, or leads to a later one of so many rows."""
    return row[0] not in ("jump", "zero") or r < row[-1] < many


def all_is_set(code, script):
    """Tells whether each row that can be reached finds set, and of the right kind, what it uses.

    As all ways lead forward, a row is looked at when all rows that may come before it are done.
    """
    coming = {0: State(0, 0, 0)}
    for r, row in enumerate(code[1]):
        if r not in coming:
            continue
        state = coming.pop(r)
        if not finds_all(row, state, code[0], script):
            return False
        later = after_row(row, state, code[0], script)
        for t in following(code, r):
            if t in coming:
                coming[t] = coming[t].common(later)
            else:
                coming[t] = later
    return True


def finds_all(row, state, places, script):
    """Tells whether what a row uses is set and has the kinds that it needs; places are those of the code."""
    if not all([state.has_place(place) for place in reads_places(row)]):
        return False
    keys, kinds = keys_of(row, script)
    if tuple([places[place] for place in keys]) != kinds:
        return False
    operands = operands_of(row)
    if row[0] == "compare":
        return state.hold(operands, (INT, INT)) or state.hold(operands, (STR, STR))
    return state.hold(operands, needs_of(row, places, script))


def needs_of(row, places, script):
    """The kinds that the registers that a row reads need; the row is no compare."""
    word = row[0]
    if word in NEEDS:
        return NEEDS[word]
    if word == "keep":
        return (places[row[1]],)
    if word in SETTING:
        return (variable_kind(SETTING[word], row[1], script),)
    return ()


def after_row(row, state, places, script):
    """The state behind a row."""
    if row[0] == "keep":
        return state.with_place(row[1])
    a = writes(row)
    if a < 0:
        return state
    return state.with_register(a, kind_given(row, places, script))


class State:
    """What is set at a row on every way to it: a bit for each register and place; never changed."""

    def __init__(self, numbers, texts, places):
        """The registers that hold numbers, those that hold texts, and the places that are set."""
        self.numbers = numbers
        self.texts = texts
        self.places = places

    def hold(self, operands, kinds):
        """Tells whether registers are set and have these kinds."""
        return all([self.holds(a, kind) for a, kind in zip(operands, kinds)])

    def holds(self, a, kind):
        bits = self.texts
        if kind == INT:
            bits = self.numbers
        return (bits >> a) & 1 == 1

    def has_place(self, place):
        return (self.places >> place) & 1 == 1

    def with_register(self, a, kind):
        """The state behind a row that writes a register."""
        bit = 1 << a
        numbers = self.numbers & ~bit
        texts = self.texts & ~bit
        if kind == INT:
            return State(numbers | bit, texts, self.places)
        return State(numbers, texts | bit, self.places)

    def with_place(self, place):
        return State(self.numbers, self.texts, self.places | 1 << place)

    def common(self, other):
        """What is set on both of two ways that meet."""
        return State(self.numbers & other.numbers, self.texts & other.texts, self.places & other.places)
