"""The characters of scripts and of what they are made of."""

# The percent sign has no place in the strings of this package, so it stands here by its code.
PERCENT = 37

# The characters of texts in the order of their codes; there is no other way from a code to its character.
TEXT_CHARACTERS = (
    " !#$&'()*+,-./0123456789:;<=>?@ABCDEFGHIJKLMNOPQRSTUVWXYZ[]^_`abcdefghijklmnopqrstuvwxyz{|}~"
)


def in_script(character):
    """Tells whether a character that is no newline may stand in a script."""
    return " " <= character <= "~" and character != "\\" and ord(character) != PERCENT


def is_digit(character):
    return "0" <= character <= "9"


def is_letter(character):
    return "a" <= character <= "z" or "A" <= character <= "Z"


def in_word(character):
    """Tells whether a name or a number extends over this character."""
    return is_letter(character) or is_digit(character) or character == "_"


def in_text(character):
    """Tells whether a character may stand in a text of a script."""
    return in_script(character) and character != "\""
