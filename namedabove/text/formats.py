"""Texts: how cutters, rules, turns, companies, bundles, lots and inboxes are written, and read back."""

from namedabove.base.companies import Company, check_company, is_people, is_turn
from namedabove.base.cutters import check_cutter
from namedabove.base.names import is_ascending
from namedabove.errors import InvalidOperation, ParseError
from namedabove.live.inbox import Inbox, check_inbox
from namedabove.read.lots import Lot, check_lot
from namedabove.read.rules import check_rule
from namedabove.talk.bundles import Bundle, check_bundle, is_letter
from namedabove.text.lines import (
    ADDS, BETWEEN_CUTTERS, HIDES, LOST, NEW, SEES, SKIPS, UPON, arrival_in, copy_in, cutter_in, letter_in,
    letter_of_lot_in, names_in, pair_and_turn_in, rule_in, some_in, turn_in,
)

PEOPLE = "people"
STARTS = "starts"
ANSWER = "answer"
TAKING = "taking"
COPY = "copy"
NO_LETTERS = "-"


def cutter_text(cutter):
    """The text of a cutter."""
    check_cutter(cutter)
    return str(cutter)


def rule_text(rule):
    """The text of a rule."""
    check_rule(rule)
    return f"{SEES if rule.sees_lost else SKIPS} {rule.cutter!s}"


def turn_text(turn):
    """The text of a turn."""
    if not is_turn(turn):
        raise InvalidOperation("the value is no turn")
    road, adds, cutter = turn
    return BETWEEN_CUTTERS.join([str(road), ADDS if adds else HIDES, str(cutter)])


def company_text(company):
    """The text of a company."""
    check_company(company)
    lines = [" ".join([PEOPLE, *company.people]), " ".join([STARTS, *company.starts])]
    for word, turns in ((ANSWER, company.answers), (TAKING, company.takings)):
        lines.extend([f"{word} {one} {other}: {turn_text(turns[one, other])}" for one, other in turns])
    copies = company.copies
    lines.extend([f"{COPY} {person}: {copies[person]!s}" for person in copies if not copies[person].keeps_all])
    return "\n".join(lines)


def letter_text(letter):
    """The line of a letter."""
    writer, upon, begins = letter
    if upon is None:
        return writer
    return f"{writer} {NEW if begins else UPON} {upon}"


def bundle_text(bundle):
    """The text of a bundle."""
    check_bundle(bundle)
    return "\n".join([letter_text(letter) for letter in bundle.letters]) or NO_LETTERS


def lot_text(lot):
    """The text of a lot."""
    check_lot(lot)
    lines = [letter_text(letter) for letter in lot.bundle.letters]
    return "\n".join([line if mark in lot else f"{line} {LOST}" for mark, line in enumerate(lines)]) or NO_LETTERS


def inbox_text(inbox):
    """The text of an inbox."""
    check_inbox(inbox)
    lines = [rule_text(inbox.rule)]
    for told in inbox:
        mark, writer, copy = inbox[told]
        lines.append(" ".join([f"{mark} {writer}:", *[str(above) for above in copy]]))
    return "\n".join(lines)


def read_cutter(text):
    """The cutter that has this text."""
    return read_line(text, cutter_in(first_line(text)))


def read_rule(text):
    """The rule that has this text."""
    return read_line(text, rule_in(first_line(text)))


def read_turn(text):
    """The turn that has this text."""
    return read_line(text, turn_in(first_line(text)))


def read_company(text):
    """The company that has this text."""
    lines = lines_of(text)
    people = names_in(lines[0], PEOPLE)
    if not is_people(people):
        raise ParseError(0)
    if len(lines) == 1:
        raise ParseError(1)
    starts = some_in(lines[1], STARTS, people)
    if starts is None:
        raise ParseError(1)
    answers, at = read_rows(lines, 2, lambda line: pair_and_turn_in(line, ANSWER, people))
    takings, at = read_rows(lines, at, lambda line: pair_and_turn_in(line, TAKING, people))
    copies, at = read_rows(lines, at, lambda line: copy_in(line, COPY, people))
    if at < len(lines):
        raise ParseError(at)
    return Company(people, answers, takings=takings, starts=starts, copies=copies)


def read_bundle(company, text):
    """The bundle of a company that has this text."""
    check_company(company)
    lines = lines_of(text)
    return Bundle.of_many(company, read_letters(company, lines, [letter_in(line) for line in lines]))


def read_lot(company, text):
    """The lot of a company that has this text."""
    check_company(company)
    lines = lines_of(text)
    pairs = [letter_of_lot_in(line) for line in lines]
    letters = read_letters(company, lines, [letter for letter, _ in pairs])
    return Lot(Bundle.of_many(company, letters), tuple([mark for mark in range(len(letters)) if pairs[mark][1]]))


def read_inbox(text):
    """An inbox that has this text, and has received its arrivals by one call."""
    lines = lines_of(text)
    rule = rule_in(lines[0])
    if rule is None:
        raise ParseError(0)
    found = []
    for at in range(1, len(lines)):
        told = arrival_in(lines[at])
        if told is None or found and found[-1][0] >= told[0]:
            raise ParseError(at)
        found.append(told)
    return Inbox.of(rule, tuple(found))


def lines_of(text):
    """The lines of a text; ParseError for what is no string."""
    if not isinstance(text, str):
        raise ParseError(0)
    return text.split("\n")


def first_line(text):
    """The first line of a text."""
    return lines_of(text)[0]


def read_line(text, value):
    """What the first line of a text says, if it says something, and if there is no other line."""
    if value is None:
        raise ParseError(0)
    if len(lines_of(text)) > 1:
        raise ParseError(1)
    return value


def read_rows(lines, at, told_in):
    """A dict of the pairs (key, value) that lines from this one on say, their keys ascending, and the line behind."""
    found = {}
    last = None
    while at < len(lines):
        told = told_in(lines[at])
        if told is None or last is not None and not is_ascending((last, told[0])):
            return found, at
        last = told[0]
        found[last] = told[1]
        at += 1
    return found, at


def read_letters(company, lines, letters):
    """The tuple of the letters that lines say; ParseError for the first line that can say none there."""
    if lines[0] == NO_LETTERS:
        if len(lines) > 1:
            raise ParseError(1)
        return ()
    for at in range(len(lines)):
        if not is_letter(company, letters, at):
            raise ParseError(at)
    return tuple(letters)
