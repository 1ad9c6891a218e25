"""The claims and steps of points 6.7 to 6.9 once more, from their words, and the strongest claims."""

from drawn_code import next_rows, operands, places_read, written
from second_meaning import ARITHMETIC, SIMPLE, TRUTHS, Stopped

PURE = "const view arg reg get global thread array compare minus not len sub text".split()


def value_written(row, known):
    """The known value that a row writes, or None; known is a dict."""
    if row[0] == "const":
        return row[2]
    if row[0] not in ("op", "compare", "minus", "not", "len", "cat", "sub", "text") or not all(a in known for a in operands(row)):
        return None
    values = [known[a] for a in operands(row)]
    kinds = [kind for kind, _ in values]
    wanted = {"op": ["int", "int"], "compare": kinds[:1] * 2, "len": ["str"], "cat": ["str", "str"], "sub": ["str", "int", "int"]}
    if kinds != wanted.get(row[0], ["int"]):
        return None
    plain = [thing for _, thing in values]
    try:
        if row[0] == "op":
            return ("int", ARITHMETIC[row[2]](*plain))
        if row[0] == "compare":
            return ("int", int(TRUTHS[row[2]](*plain)))
        result = SIMPLE[row[0]](*plain)
    except Stopped:
        return None
    return ("str", result) if row[0] in ("cat", "sub", "text") else ("int", result)


def known_behind(row, known):
    later = {a: value for a, value in known.items() if a != written(row)}
    value = value_written(row, known)
    if value is not None:
        later[written(row)] = value
    return later


def second_known_holds(code, claim):
    """For a claim whose form is right."""
    rows = code[1]
    return not (rows and claim[0]) and all(
        pair in known_behind(row, dict(claim[r])).items() for r, row in enumerate(rows) for t in next_rows(rows, r) for pair in claim[t])


def second_needed_holds(rows, claim, reads, writes):
    return all(set(claim[r]) >= set(reads(row)) and all(set(claim[r]) >= set(claim[t]) - {writes(row)} for t in next_rows(rows, r))
               for r, row in enumerate(rows))


def place_written(row):
    return row[1] if row[0] == "keep" else -1


def strongest_known(code, limiting=False):
    """For code whose jumps lead forward; rows that cannot be reached limit nothing, unless the claim has to hold for them too."""
    rows = code[1]
    known = {0: {}}
    for r, row in enumerate(rows):
        if limiting:
            known.setdefault(r, {})
        if r in known:
            for t in next_rows(rows, r):
                later = known_behind(row, known[r])
                known[t] = {a: v for a, v in known[t].items() if later.get(a) == v} if t in known else later
    return tuple(tuple(sorted(known.get(r, {}).items())) for r in range(len(rows)))


def strongest_needed(code, reads=operands, writes=written):
    rows = code[1]
    needed = [set() for _ in rows]
    changed = True
    while changed:
        changed = False
        for r, row in enumerate(rows):
            wanted = set(reads(row)).union(*[needed[t] - {writes(row)} for t in next_rows(rows, r)])
            if wanted != needed[r]:
                needed[r], changed = wanted, True
    return tuple(tuple(sorted(member)) for member in needed)


def strongest_places(code):
    return strongest_needed(code, places_read, place_written)


def strongest_reached(code):
    found, todo = {0}, [0]
    while todo:
        new = next_rows(code[1], todo.pop()) - found
        found |= new
        todo += new
    return tuple(sorted(found))


def strongest(code, word):
    known = lambda code: strongest_known(code, True)
    return {"fold": known, "decide": known, "drop": strongest_needed, "forget": strongest_places,
            "unreach": strongest_reached}[word](code)


def second_step(code, step):
    """The new code, or None; the claim holds."""
    kinds, rows = code
    word, r = step[:2]
    row = rows[r]
    behind = lambda: {thing for t in next_rows(rows, r) for thing in step[2][t]}
    new = None
    if word == "squeeze":
        if row not in (("skip",), ("jump", r + 1)):
            return None
        moved = [other[:-1] + (other[-1] - (other[-1] > r),) if other[0] in ("jump", "zero") else other for other in rows]
        return kinds, tuple(moved[:r] + moved[r + 1:])
    if word == "fold" and row[0] != "const":
        value = value_written(row, dict(step[2][r]))
        new = None if value is None else ("const", row[1], value)
    if word == "decide" and row[0] == "zero" and row[1] in dict(step[2][r]):
        new = ("jump", row[2]) if dict(step[2][r])[row[1]] == ("int", 0) else ("skip",)
    if word == "drop" and (row[0] in PURE or row[0] == "op" and row[2] in "+-*") and row[1] not in behind():
        new = ("skip",)
    if word == "forget" and row[0] == "keep" and row[1] not in behind():
        new = ("skip",)
    if word == "unreach" and r not in step[2] and r != len(rows) - 1:
        new = ("skip",)
    return None if new is None else (kinds, rows[:r] + (new,) + rows[r + 1:])
