"""The forms of values, rows and code."""

from tapline.characters import in_text
from tapline.kinds import INT, STR
from tapline.limits import GREATEST, LAST_REGISTER, LEAST, LONGEST, MOST_KEYS
from tapline.row_parts import CHOICES, LISTED, PARTS


def is_whole(thing):
    """Tells whether a thing is an integer; a truth is none."""
    return isinstance(thing, int) and not isinstance(thing, bool)


def is_from(thing, least, most):
    """Tells whether a thing is an integer from least to most; most may be None for any."""
    return is_whole(thing) and thing >= least and (most is None or thing <= most)


def is_register(thing):
    return is_from(thing, 0, LAST_REGISTER)


def is_value(thing):
    """Tells whether a thing is a value of a script."""
    if not isinstance(thing, tuple) or len(thing) != 2:
        return False
    kind, held = thing
    if kind == INT:
        return is_from(held, LEAST, GREATEST)
    return kind == STR and is_short_text(held)


def is_short_text(thing):
    if not isinstance(thing, str) or len(thing) > LONGEST:
        return False
    return all([in_text(character) for character in thing])


def has_form(thing, most):
    """Tells whether a thing is code of the form of point 6.1.

    most is the greatest place, index and target, and with it a row has no more keys than scripts have;
    None stands for no limits.
    """
    if not isinstance(thing, tuple) or len(thing) != 2:
        return False
    kinds, rows = thing
    if not isinstance(kinds, tuple) or not isinstance(rows, tuple):
        return False
    return all([kind in (INT, STR) for kind in kinds]) and all([is_row(row, most) for row in rows])


def is_row(thing, most):
    if not isinstance(thing, tuple) or not thing:
        return False
    word = thing[0]
    if not isinstance(word, str) or word not in PARTS:
        return False
    parts = PARTS[word]
    if len(thing) != len(parts) + 1:
        return False
    return all([fits(part, held, most) for part, held in zip(parts, thing[1:])])


def fits(part, thing, most):
    """Tells whether a thing may stand in a row as this part."""
    if part in CHOICES:
        return isinstance(thing, str) and thing in CHOICES[part]
    if part in ("into", "from"):
        return is_register(thing)
    if part == "optional":
        return is_from(thing, -1, LAST_REGISTER)
    if part == "member":
        return is_from(thing, 0, 3)
    if part == "value":
        return is_value(thing)
    if part in LISTED:
        return is_row_of_places(thing, most) and (part != "keys" or most is None or len(thing) <= MOST_KEYS)
    return is_from(thing, 0, most)


def is_row_of_places(thing, most):
    return isinstance(thing, tuple) and all([is_from(place, 0, most) for place in thing])
