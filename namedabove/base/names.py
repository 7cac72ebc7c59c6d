"""Names of people, marks of letters, and what counts as an integer."""

MAX_NAME = 8


def is_whole(value):
    """Whether the value is an integer; True and False are none."""
    return isinstance(value, int) and not isinstance(value, bool)


def is_name(value):
    """Whether the value is a string of one to eight letters a to z."""
    if not isinstance(value, str) or not 1 <= len(value) <= MAX_NAME:
        return False
    return all(["a" <= sign <= "z" for sign in value])


def is_mark(value):
    """Whether the value is an integer of at least 0."""
    return is_whole(value) and value >= 0
