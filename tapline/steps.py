"""Steps: small changes of code, each with a claim that is checked here."""

from tapline.changes import changed
from tapline.code import following, reads, reads_places, writes
from tapline.errors import BadStep
from tapline.forms import is_from, is_register, is_value
from tapline.known_values import known_after
from tapline.limits import LAST_REGISTER


def take_step(code, step):
    """The code that a step makes of code; raises BadStep."""
    if not is_step(code, step) or not claim_holds(code, step):
        raise BadStep()
    new = changed(code, step)
    if new is None:
        raise BadStep()
    return new


def is_step(code, thing):
    """Tells whether a thing has the form of a step for a row of the code; its claim is not examined."""
    if not isinstance(thing, tuple) or len(thing) < 2 or not isinstance(thing[0], str):
        return False
    if not is_from(thing[1], 0, len(code[1]) - 1):
        return False
    if thing[0] == "squeeze":
        return len(thing) == 2
    return thing[0] in CHECKS and len(thing) == 3


def claim_holds(code, step):
    if step[0] == "squeeze":
        return True
    check = CHECKS[step[0]]
    return check(code, step[2])


def known_holds(code, claim):
    """Tells whether a claim of known values holds."""
    rows = code[1]
    if not is_tuple_of(claim, is_known_member) or len(claim) != len(rows):
        return False
    if rows and claim[0] != ():
        return False
    for r, row in enumerate(rows):
        later = known_after(row, dict(claim[r]))
        for t in following(code, r):
            if not all([a in later and later[a] == value for a, value in claim[t]]):
                return False
    return True


def is_known_member(thing):
    """Tells whether a thing is a tuple of pairs of registers and values, ascending by the registers."""
    if not is_tuple_of(thing, is_known_pair):
        return False
    return ascends([pair[0] for pair in thing])


def is_known_pair(thing):
    return isinstance(thing, tuple) and len(thing) == 2 and is_register(thing[0]) and is_value(thing[1])


def needed_holds(code, claim):
    """Tells whether a claim of needed registers holds."""
    rows = code[1]
    if not are_rising(claim, len(rows), LAST_REGISTER + 1):
        return False
    for r, row in enumerate(rows):
        if not all([a in claim[r] for a in reads(row)]):
            return False
        if not brings_all(code, r, claim, writes(row)):
            return False
    return True


def places_hold(code, claim):
    """Tells whether a claim of needed places holds."""
    kinds, rows = code
    if not are_rising(claim, len(rows), len(kinds)):
        return False
    for r, row in enumerate(rows):
        if not all([place in claim[r] for place in reads_places(row)]):
            return False
        written = -1
        if row[0] == "keep":
            written = row[1]
        if not brings_all(code, r, claim, written):
            return False
    return True


def brings_all(code, r, claim, written):
    """Tells whether a row's member has all of the members of the rows behind it but what the row writes."""
    for t in following(code, r):
        if not all([thing == written or thing in claim[r] for thing in claim[t]]):
            return False
    return True


def reached_holds(code, claim):
    """Tells whether a claim of reached rows holds."""
    if not is_rising(claim, len(code[1])) or claim[:1] != (0,):
        return False
    reached = {r: True for r in claim}
    for r in claim:
        if not all([t in reached for t in following(code, r)]):
            return False
    return True


def are_rising(thing, many, bound):
    """Tells whether a thing is a tuple of so many ascending tuples of numbers below a bound."""
    if not isinstance(thing, tuple) or len(thing) != many:
        return False
    return all([is_rising(member, bound) for member in thing])


def is_rising(thing, bound):
    """Tells whether a thing is an ascending tuple of numbers from 0 on and below a bound, without duplicates."""
    if not isinstance(thing, tuple) or not all([is_from(number, 0, bound - 1) for number in thing]):
        return False
    return ascends(thing)


def is_tuple_of(thing, fits):
    return isinstance(thing, tuple) and all([fits(member) for member in thing])


def ascends(numbers):
    """Tells whether each number is greater than the one before it."""
    return all([one < other for one, other in zip(numbers, numbers[1:])])


# How the claims of the steps are checked; a squeeze has none.
CHECKS = {
    "fold": known_holds,
    "decide": known_holds,
    "drop": needed_holds,
    "forget": places_hold,
    "unreach": reached_holds,
}
