"""What integers and names are, asked of any object."""

LETTERS = "abcdefghijklmnopqrstuvwxyz"
DIGITS = "0123456789"
LONGEST_NAME = 8


def is_integer(thing):
    """Return whether any object is an int that is not a bool."""
    return isinstance(thing, int) and not isinstance(thing, bool)


def is_count(thing):
    """Return whether any object is an integer from 0 on."""
    return is_integer(thing) and thing >= 0


def is_name(thing):
    """Return whether any object is a word that can name a relay or a chain."""
    if not isinstance(thing, str) or not 1 <= len(thing) <= LONGEST_NAME:
        return False
    return thing[0] in LETTERS and all([sign in LETTERS + DIGITS for sign in thing])
