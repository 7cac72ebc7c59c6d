"""Where texts of stage 15 stop to be texts, once more straight from its words and by patterns, to compare with."""

import re

from tests.plain_talks import possible_letters

PART = r"(?:all|[+-]{0,2}\.\.[+-]{0,3})"
CUTTER = rf"{PART}(?: > {PART})*"
TURN = rf"{CUTTER} \| (?:adds|hides) \| {CUTTER}"
NAME = "[a-z]{1,8}"
NUMBER = "(?:0|[1-9][0-9]*)"


def first_wrong(is_line, lines):
    """The index of the first line that cannot stand there; None if all can."""
    return next((at for at in range(len(lines)) if not is_line(lines[:at], lines[at])), None)


def is_one_line(pattern):
    return lambda before, line: not before and re.fullmatch(pattern, line) is not None


def is_company_line(before, line):
    words = line.split(" ")
    if not before:
        names = words[1:]
        return bool(re.fullmatch(rf"people(?: {NAME}){{1,4}}", line)) and names == sorted(set(names))
    people = before[0].split(" ")[1:]
    if len(before) == 1:
        names = words[1:]
        return bool(re.fullmatch(rf"starts(?: {NAME})*", line)) and names == sorted(set(names)) and set(names) <= set(people)
    key = company_key(line, people)
    return key is not None and all(company_key(other, people) < key for other in before[2:])


def company_key(line, people):
    """What lines behind the first two are ordered by; None for a line that is none."""
    found = re.fullmatch(rf"(answer|taking) ({NAME}) ({NAME}): {TURN}", line)
    if found:
        names = found[2], found[3]
        return (found[1], *names) if set(names) <= set(people) else None
    found = re.fullmatch(rf"copy ({NAME}): ({CUTTER})", line)
    if found and found[1] in people and set(found[2].split(" > ")) != {"all"}:
        return ("zcopy", found[1], "")
    return None


def letter_of(line, with_lost):
    found = re.fullmatch(rf"({NAME})(?: (<|new) ({NUMBER}))?" + ("( lost)?" if with_lost else "()"), line)
    if not found:
        return None
    if found[2] is None:
        return (found[1], None, True)
    return (found[1], int(found[3]), found[2] == "new")


def is_letter_line(company, with_lost):
    def is_line(before, line):
        if line == "-":
            return not before
        letters = [letter_of(other, with_lost) for other in before]
        return None not in letters and letter_of(line, with_lost) in possible_letters(company, letters)
    return is_line


def is_inbox_line(before, line):
    if not before:
        return re.fullmatch(rf"(?:sees|skips) {CUTTER}", line) is not None
    if not re.fullmatch(rf"{NUMBER} {NAME}:(?: {NUMBER})*", line):
        return False
    mark, copy = int(line.split(" ")[0]), list(map(int, line.split(":")[1].split()))
    if len(before) > 1 and int(before[-1].split(" ")[0]) >= mark:
        return False
    return copy == sorted(set(copy)) and all(above < mark for above in copy)
