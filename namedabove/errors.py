"""The errors that the package raises."""


def kept(value):
    """A copy of a value: an error does not change when the caller changes a list or a dict later."""
    if isinstance(value, list):
        return [kept(part) for part in value]
    if isinstance(value, tuple):
        return tuple([kept(part) for part in value])
    if isinstance(value, dict):
        return {key: kept(value[key]) for key in value}
    return value


class LetterError(ValueError):
    """What is wrong with a value of this package; the base of the errors that say it."""


class InvalidCutter(LetterError):
    """A value is no cutter, or no cutter can be made of these parts."""


class InvalidCompany(LetterError):
    """A value is no company, or no company can be made of these arguments."""


class InvalidBundle(LetterError):
    """A value is no bundle, or no bundle can be made of these letters."""


class InvalidRule(LetterError):
    """A value is no rule, or no rule can be made of these arguments."""


class InvalidLot(LetterError):
    """A value is no lot, or no lot can be made of these arguments."""


class InvalidState(LetterError):
    """A value is no state of a letter."""


class InvalidLetter(LetterError):
    """A value is no letter that can come to an inbox."""


class InvalidPledge(LetterError):
    """A value is no pledge for this company."""


class InvalidOperation(LetterError):
    """A call is not possible with this argument, or not now."""


class ParseError(LetterError):
    """A text cannot be read; the line is the index of the first one that cannot stand there."""

    def __init__(self, line):
        self.line = kept(line)


class UnknownName(KeyError):
    """Nothing has this name, or this mark."""

    def __init__(self, name):
        self.name = kept(name)


class InvalidNumber(RuntimeError):
    """A value is no number of those that are possible here."""

    def __init__(self, value):
        self.value = kept(value)


class TooMany(OverflowError):
    """There are more of them than the limit."""

    def __init__(self, limit):
        self.limit = kept(limit)


class NothingToUndo(IndexError):
    """There are not so many deeds that can be taken back, or done again."""

    def __init__(self, many):
        self.many = kept(many)


class Broken(ArithmeticError):
    """A pledge of this name would not hold; the reason is a paper that shows it."""

    def __init__(self, name, reason):
        self.name = kept(name)
        self.reason = kept(reason)
