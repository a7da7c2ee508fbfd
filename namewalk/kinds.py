"""What counts as a number, an owner and a name."""

NAME_LETTERS = "abcdefghijklmnopqrstuvwxyz0123456789_-."
LONGEST_NAME = 12


def is_number(value):
    """Whether value is an integer; True and False are none."""
    return isinstance(value, int) and not isinstance(value, bool)


def is_owner(value):
    return is_number(value) and value >= 0


def is_name(value):
    if not isinstance(value, str) or not 1 <= len(value) <= LONGEST_NAME:
        return False
    if value in (".", ".."):
        return False
    return all([letter in NAME_LETTERS for letter in value])


def unused_name(taken):
    """A name that is none of those that are taken."""
    number = 0
    while f"n{number}" in taken:
        number += 1
    return f"n{number}"
