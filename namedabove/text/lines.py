"""Lines of texts: what the words of a line say; None for a line that says nothing."""

from namedabove.base.companies import is_pair, is_some_of
from namedabove.base.cutters import Cutter, is_part
from namedabove.base.names import is_marks_below, is_name
from namedabove.read.rules import Rule

DIGITS = "0123456789"
BETWEEN_PARTS = " > "
BETWEEN_CUTTERS = " | "
ADDS = "adds"
HIDES = "hides"
SEES = "sees"
SKIPS = "skips"
UPON = "<"
NEW = "new"
LOST = "lost"


def number_in(word):
    """The number that a word of digits says, without leading zeros."""
    if word == "" or not all([sign in DIGITS for sign in word]):
        return None
    if word[0] == "0" and word != "0":
        return None
    return int(word)


def cutter_in(line):
    """The cutter of a line."""
    parts = tuple(line.split(BETWEEN_PARTS))
    if not all([is_part(part) for part in parts]):
        return None
    return Cutter.of_any(parts)


def rule_in(line):
    """The rule of a line."""
    word, _, rest = line.partition(" ")
    cutter = cutter_in(rest)
    if cutter is None or word not in (SEES, SKIPS):
        return None
    return Rule(cutter, sees_lost=word == SEES)


def turn_in(line):
    """The turn of a line."""
    parts = line.split(BETWEEN_CUTTERS)
    if len(parts) != 3 or parts[1] not in (ADDS, HIDES):
        return None
    road, cutter = cutter_in(parts[0]), cutter_in(parts[2])
    if road is None or cutter is None:
        return None
    return (road, parts[1] == ADDS, cutter)


def names_in(line, word):
    """The tuple of what stands behind the first word of a line, which is this one."""
    first, *names = line.split(" ")
    return tuple(names) if first == word else None


def some_in(line, word, people):
    """The ascending tuple of people behind the first word of a line."""
    names = names_in(line, word)
    return names if is_some_of(names, people) else None


def pair_and_turn_in(line, word, people):
    """The pair of people of a line that begins with this word, and the turn behind the colon."""
    head, _, rest = line.partition(": ")
    pair = names_in(head, word)
    turn = turn_in(rest)
    return (pair, turn) if turn is not None and is_pair(pair, people) else None


def copy_in(line, word, people):
    """The person of a line that begins with this word, and the cutter behind the colon, which does not keep all."""
    head, _, rest = line.partition(": ")
    names = names_in(head, word)
    cutter = cutter_in(rest)
    if names is None or len(names) != 1 or names[0] not in people or cutter is None or cutter.keeps_all:
        return None
    return names[0], cutter


def letter_in(line):
    """The letter of a line, whoever writes it, and upon whatever."""
    words = line.split(" ")
    if len(words) == 1:
        return (words[0], None, True)
    if len(words) != 3 or words[1] not in (UPON, NEW):
        return None
    mark = number_in(words[2])
    return None if mark is None else (words[0], mark, words[1] == NEW)


def letter_of_lot_in(line):
    """The pair of the letter of a line, perhaps None, and of whether it came."""
    words = line.split(" ")
    # Somebody can be called lost, too; so only a word behind the letter says that this is lost.
    is_lost = len(words) in (2, 4) and words[-1] == LOST
    return letter_in(" ".join(words[:-1]) if is_lost else line), not is_lost


def arrival_in(line):
    """The arrival of a line."""
    head, colon, rest = line.partition(":")
    words = head.split(" ")
    if colon == "" or len(words) != 2 or not is_name(words[1]):
        return None
    mark = number_in(words[0])
    copy = marks_in(rest)
    if mark is None or not is_marks_below(copy, mark):
        return None
    return (mark, words[1], copy)


def marks_in(text):
    """The tuple of the numbers of a text, each behind a blank."""
    first, *words = text.split(" ")
    return tuple([number_in(word) for word in words]) if first == "" else None
