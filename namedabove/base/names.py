"""Names of people, marks of letters, and what counts as an integer."""

MAX_NAME = 8


def is_whole(value):
    """Whether the value is an integer; True and False are none."""
    return isinstance(value, int) and not isinstance(value, bool)


def is_name(value):
    """Whether the value is a string of one to eight letters a to z."""
    if not isinstance(value, str) or not 1 <= len(value) <= MAX_NAME:
        return False
    return all(["a" <= sign <= "z" for sign in value])


def is_mark(value):
    """Whether the value is an integer of at least 0."""
    return is_whole(value) and value >= 0


def is_mark_below(value, many):
    """Whether the value is the mark of one of so many letters."""
    return is_mark(value) and value < many


def is_ascending(row):
    """Whether each value of a row is less than the next one."""
    return all([row[at] < row[at + 1] for at in range(len(row) - 1)])


def is_marks_below(value, many):
    """Whether the value is an ascending tuple of marks of so many letters, perhaps of none."""
    if not isinstance(value, tuple) or not all([is_mark_below(mark, many) for mark in value]):
        return False
    return is_ascending(value)
