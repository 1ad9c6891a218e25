"""A second judge, from the words of points 6.4 and 6.5, and drawn code that it takes."""

import random

from drawn_scripts import ARRAYS, GLOBALS, TABLES, THREADS
from stores import drawn_value

from tapline.code import WORDS

SCRIPT = (GLOBALS, ARRAYS, THREADS, TABLES, ())
VARIABLES = {"global": GLOBALS, "thread": THREADS, "array": ARRAYS}
NUMBERS = {"op": 2, "minus": 1, "not": 1, "text": 1, "byte": 1, "zero": 1, "speculate": 1, "commit": 1, "discard": 1}


def operands(row):
    """The registers that a row reads, in order."""
    word = row[0]
    if word in ("op", "compare"):
        return row[3:]
    if word in ("minus", "not", "len", "cat", "sub", "text", "byte"):
        return row[2:]
    if word in ("keep", "setglobal", "setthread", "setarray", "put"):
        return row[-1:] if row[-1] >= 0 else ()
    if word in ("zero", "speculate", "commit", "discard"):
        return row[1:2]
    return ()


def places_read(row):
    for part in row[1:]:
        if isinstance(part, tuple) and row[0] != "const":
            return part
    return row[2:] if row[0] == "get" else ()


def written(row):
    return row[1] if row[0] in WORDS[:5] + WORDS[6:19] else -1


def targets(row):
    return row[-1:] if row[0] in ("jump", "zero") else ()


def next_rows(rows, r):
    """What may come behind a row, each once, in any order."""
    found = list(targets(rows[r]))
    if rows[r][0] not in ("jump", "stop", "end"):
        found.append(r + 1)
    return {t for t in found if 0 <= t < len(rows)}


def keys_wanted(row):
    """The kinds of the keys of a row, or None."""
    if row[0] in ("array", "setarray"):
        return ARRAYS[row[2] if row[0] == "array" else row[1]][1]
    return TABLES[row[1]][1] if row[0] == "put" else None


def kinds_needed(row, kinds):
    """The kinds that the operands of a row need; for a compare None."""
    word = row[0]
    if word in NUMBERS:
        return ("int",) * NUMBERS[word]
    if word == "compare":
        return None
    if word in ("setglobal", "setthread", "setarray"):
        return (VARIABLES[word[3:]][row[1]][-1],)
    return {"len": ("str",), "cat": ("str", "str"), "sub": ("str", "int", "int"), "keep": kinds[row[1]:row[1] + 1] if word == "keep" else (),
            "put": ("int",) if word == "put" and row[3] >= 0 else ()}.get(word, ())


def kind_written(row, kinds):
    word = row[0]
    if word == "const":
        return row[2][0]
    if word == "get":
        return kinds[row[2]]
    if word in VARIABLES:
        return VARIABLES[word][row[2]][-1]
    return "str" if word in ("cat", "sub", "text") or row[2:] == ("name",) else "int"


def in_bounds(row, many_places):
    word = row[0]
    read = places_read(row) + (row[1:2] if word == "keep" else ())
    if any(not 0 <= place < many_places for place in read):
        return False
    for one, rows in (("global", GLOBALS), ("thread", THREADS), ("array", ARRAYS)):
        if word == one and row[2] >= len(rows) or word == "set" + one and row[1] >= len(rows):
            return False
    if word == "put" and (row[1] >= len(TABLES) or (TABLES[row[1]][2] == "count") != (row[3] == -1)):
        return False
    wanted = keys_wanted(row)
    return wanted is None or len(wanted) == len(places_read(row))


def second_judge(code, own):
    """The judge for SCRIPT; the code has the form of 6.1."""
    kinds, rows = code
    if kinds[:len(own)] != own or not rows or rows[-1] != ("end",):
        return False
    for r, row in enumerate(rows):
        if not in_bounds(row, len(kinds)) or any(not r < t < len(rows) for t in targets(row)):
            return False
    states = {0: ({}, set())}
    for r, row in enumerate(rows):
        if r in states:
            if not has_all(row, kinds, states[r]):
                return False
            later = behind(row, kinds, states[r])
            for t in next_rows(rows, r):
                states[t] = meet(states[t], later) if t in states else later
    return True


def has_all(row, kinds, state):
    registers, places = state
    used = [registers.get(a) for a in operands(row)]
    if None in used or any(place not in places for place in places_read(row)):
        return False
    wanted = keys_wanted(row)
    if wanted is not None and wanted != tuple(kinds[place] for place in places_read(row)):
        return False
    needed = kinds_needed(row, kinds)
    return len(set(used)) == 1 if needed is None else tuple(used) == needed


def behind(row, kinds, state):
    registers, places = dict(state[0]), set(state[1])
    if row[0] == "keep":
        places.add(row[1])
    elif written(row) >= 0:
        registers[row[1]] = kind_written(row, kinds)
    return registers, places


def meet(one, other):
    return {a: kind for a, kind in one[0].items() if other[0].get(a) == kind}, one[1] & other[1]


class DrawnCode:
    """Draws code that the judge takes, with rows that cannot be reached here and there."""

    def __init__(self, seed):
        self.chance = random.Random(seed)
        self.kinds = tuple(self.one("int", "str") for _ in range(self.chance.randint(0, 5)))
        self.own = self.kinds[:self.chance.randint(0, len(self.kinds))]

    def one(self, *choices):
        return self.chance.choice(choices)

    def code(self):
        many = self.one(1, 2, 5, 10, 15, 25, 40)
        states = {0: ({}, set())}
        rows = []
        for r in range(many - 1):
            state = states.get(r)
            row = None
            while row is None or not in_bounds(row, len(self.kinds)) or state is not None and not has_all(row, self.kinds, state):
                row = self.row(r, many, state)
            rows.append(row)
            if state is not None:
                later = behind(row, self.kinds, state)
                for t in next_rows(rows + [None] * (many - r), r):
                    states[t] = meet(states[t], later) if t in states else later
        return self.kinds, tuple(rows) + (("end",),)

    def row(self, r, many, state):
        word = self.one(*WORDS[:20], *WORDS[:20], "const", "const", "const", "const", "keep", "keep", "get", "op", "op", "zero",
                        "zero", *WORDS[20:31], "skip", "end")
        if word in ("stop", "end") and self.chance.random() < 0.8:
            word = "zero"
        known = list(state[0]) if state else []
        a = lambda: self.chance.choice(known) if known and self.chance.random() < 0.9 else self.chance.randrange(8)
        d = self.chance.randrange(4 if self.chance.random() < 0.8 else 8)
        t = min(many - 1, r + self.one(1, 2, 2, 3, 5, 9))
        p = self.chance.randrange(len(self.kinds) + 1)
        return (word,) + {
            "const": lambda: (d, drawn_value(self.chance, self.one("int", "int", "str"))),
            "view": lambda: (d, self.one("now", "cpu", "pid", "tid", "at", "name")),
            "arg": lambda: (d, self.chance.randrange(4)), "reg": lambda: (d, self.chance.randrange(4)),
            "get": lambda: (d, p), "keep": lambda: (p, a()),
            "global": lambda: (d, self.chance.randrange(len(GLOBALS))), "thread": lambda: (d, self.chance.randrange(len(THREADS))),
            "array": lambda: (d,) + self.keyed(ARRAYS, state),
            "op": lambda: (d, self.one("+", "-", "*", "/", "mod"), a(), a()),
            "compare": lambda: (d, self.one("==", "!=", "<", "<=", ">", ">="), a(), a()),
            "cat": lambda: (d, a(), a()), "sub": lambda: (d, a(), a(), a()), "spec": lambda: (d,),
            "jump": lambda: (t,), "zero": lambda: (a(), t),
            "setglobal": lambda: (self.chance.randrange(len(GLOBALS)), a()),
            "setthread": lambda: (self.chance.randrange(len(THREADS)), a()),
            "setarray": lambda: self.keyed(ARRAYS, state) + (a(),),
            "record": lambda: (self.one("trace", "say"), tuple(self.place(None, state) for _ in range(self.one(0, 1, 2)))),
            "put": lambda: self.keyed(TABLES, state) + (self.one(-1, a()),),
            "stop": lambda: (), "skip": lambda: (), "end": lambda: (),
            "speculate": lambda: (a(),), "commit": lambda: (a(),), "discard": lambda: (a(),),
        }.get(word, lambda: (d, a()))()

    def keyed(self, rows, state):
        i = self.chance.randrange(len(rows))
        return i, tuple(self.place(kind, state) for kind in rows[i][1])

    def place(self, kind, state):
        fitting = [p for p, of in enumerate(self.kinds) if kind in (None, of) and (state is None or p in state[1])]
        return self.chance.choice(fitting) if fitting else 0


def drawn_code(seed):
    """The pair of code that the judge takes for SCRIPT, and the kinds of the locals."""
    drawn = DrawnCode(seed)
    return drawn.code(), drawn.own


def drawn_row(seed, many):
    """Any row, with operands and targets that may be out of bounds."""
    drawn = DrawnCode(seed)
    return drawn.row(drawn.chance.randrange(-1, many), many + drawn.one(0, 0, 3), None)
