"""The characters of scripts and of what they are made of."""

# The percent sign has no place in the strings of this package, so it stands here by its code.
PERCENT = 37


def in_script(character):
    """Tells whether a character that is no newline may stand in a script."""
    return " " <= character <= "~" and character != "\\" and ord(character) != PERCENT


def is_digit(character):
    return "0" <= character <= "9"


def is_letter(character):
    return "a" <= character <= "z" or "A" <= character <= "Z"


def in_word(character):
    """Tells whether a name or a number extends over this character."""
    return is_letter(character) or is_digit(character) or character == "_"
