"""Rules: which marks a reader goes by, and whether those of lost letters count."""

from namedabove.base.companies import check_company, check_person
from namedabove.base.cutters import Cutter, check_cutter, cut
from namedabove.errors import InvalidRule
from namedabove.talk.bundles import check_bundle, check_mark


class Rule:
    """What a reader goes by: a cutter, and whether lost marks are seen; it never changes."""

    def __init__(self, cutter, *, sees_lost=False):
        check_cutter(cutter)
        if not isinstance(sees_lost, bool):
            raise InvalidRule("sees_lost is no boolean")
        self._cutter = cutter
        self._sees_lost = sees_lost

    @property
    def cutter(self):
        """The cutter that keeps the bound marks of a copy."""
        return self._cutter

    @property
    def sees_lost(self):
        """Whether letters are together by the mark of a lost letter, too."""
        return self._sees_lost

    def __call__(self, row):
        """What the cutter keeps of a tuple."""
        return self._cutter(row)

    def bound(self, bundle, mark):
        """The ascending tuple of the marks that are bound to a letter."""
        check_bundle(bundle)
        check_mark(bundle, mark)
        return cut(self._cutter, bundle.copy_of(mark))

    def through(self, company, person):
        """The cutter that keeps what is bound of a list of this person."""
        check_company(company)
        check_person(company, person)
        return Cutter.of_any(company.copy(person).parts + self._cutter.parts)

    def seeing(self):
        """The rule with the same cutter that sees lost marks."""
        return Rule(self._cutter, sees_lost=True)

    def blind(self):
        """The rule with the same cutter that does not see lost marks."""
        return Rule(self._cutter, sees_lost=False)

    def is_within(self, other):
        """Whether the other rule binds all that this one does, and sees lost marks if this one does."""
        check_rule(other)
        return self._cutter.is_within(other.cutter) and (other.sees_lost or not self._sees_lost)

    def __eq__(self, other):
        if not isinstance(other, Rule):
            return False
        return self._cutter == other._cutter and self._sees_lost == other._sees_lost

    def __str__(self):
        if self._sees_lost:
            return f"seeing rule {self._cutter!s}"
        return f"rule {self._cutter!s}"


def check_rule(value):
    """Raise InvalidRule for what is no rule."""
    if not isinstance(value, Rule):
        raise InvalidRule("the value is no rule")
