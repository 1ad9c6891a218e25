"""Numbers in decimal digits, of any length."""

from tapline.characters import is_digit

# Python itself refuses to write very long numbers, so they are written in pieces of PIECE digits.
PIECE = 18
PIECES = 1000000000000000000


def decimal(n):
    """The digits of a number, with a - before them if it is below 0."""
    if n < 0:
        return "-" + decimal(-n)
    pieces = []
    while n >= PIECES:
        n, low = divmod(n, PIECES)
        pieces.append(str(low).zfill(PIECE))
    pieces.append(str(n))
    return "".join(list(reversed(pieces)))


def natural_in(text):
    """The number that a text writes in digits, without a leading zero; None for other texts."""
    if text == "" or len(text) > 1 and text[0] == "0":
        return None
    n = 0
    for character in text:
        if not is_digit(character):
            return None
        n = 10 * n + int(character)
    return n


def whole_in(text):
    """The same, also with a - before a number that is not 0."""
    if not text.startswith("-"):
        return natural_in(text)
    n = natural_in(text[1:])
    if n is None or n == 0:
        return None
    return -n
