"""The strongest claims that hold for code whose jumps all lead forward."""

from tapline.code import following, reads, reads_places, writes
from tapline.known_values import known_after


def known_claim(code):
    """The claim of known values that tells as much as possible, if all rows can be reached."""
    rows = code[1]
    known = {0: {}}
    for r, row in enumerate(rows):
        later = known_after(row, known.setdefault(r, {}))
        for t in following(code, r):
            if t in known:
                known[t] = common(known[t], later)
            else:
                known[t] = later
    return tuple([rising_pairs(known[r]) for r in range(len(rows))])


def common(one, other):
    """What two dicts have in common."""
    return {a: one[a] for a in one if a in other and one[a] == other[a]}


def rising_pairs(known):
    return tuple([(a, known[a]) for a in sorted(list(known))])


def needed_claim(code):
    """The least claim of needed registers."""
    rows = code[1]
    return needed_rows(code, [(reads(row), writes(row)) for row in rows])


def places_claim(code):
    """The least claim of needed places."""
    return needed_rows(code, [(reads_places(row), place_written(row)) for row in code[1]])


def place_written(row):
    if row[0] == "keep":
        return row[1]
    return -1


def needed_rows(code, uses):
    """For each row what is read on a way that begins with it before it is written.

    uses has for each row the pair of what it reads and what it writes.
    """
    needed = {}
    for r in reversed(range(len(uses))):
        read, written = uses[r]
        wanted = {thing: True for thing in read}
        for t in following(code, r):
            for thing in needed[t]:
                if thing != written:
                    wanted[thing] = True
        needed[r] = tuple(sorted(list(wanted)))
    return tuple([needed[r] for r in range(len(uses))])


def reached_claim(code):
    """The least claim of reached rows; the code has rows."""
    reached = {0: True}
    for r in range(len(code[1])):
        if r in reached:
            for t in following(code, r):
                reached[t] = True
    return tuple(sorted(list(reached)))
