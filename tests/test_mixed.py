"""[0.17], [10.1] to [10.3] and stage 10: two talks as one, the traces that show that it never happens, and errors."""

import unittest
from random import Random

from namedabove.base.companies import Company
from namedabove.base.cutters import Cutter
from namedabove.errors import InvalidCompany, InvalidLot, InvalidRule
from namedabove.read.lots import Lot
from namedabove.read.rules import Rule
from namedabove.talk.bundles import Bundle
from namedabove.walk.mixed import find_mixed, is_mixed_paper, is_mixing, mixed_pairs
from tests.plain_lots import some_lot
from tests.plain_talks import some_company, some_rule
from tests.plain_ways import (
    all_traces, are_closed_traces, binds_foreign, bundles_of, chains, is_bound_apart, plain_mixed_pairs, plain_traces,
)
from tests.test_parted import subsets
from tests.values import several

ALL, LAST, TWO, NONE = Cutter("all"), Cutter("..+"), Cutter("..++"), Cutter("..")
PLAIN = Company(("ann", "bob"), {("ann", "bob"): (ALL, True, TWO), ("bob", "ann"): (ALL, True, TWO)}, starts=("ann",))
TAKES = PLAIN.with_taking("bob", "ann", (ALL, True, LAST))
WIDE, NARROW = Rule(ALL, sees_lost=True), Rule(LAST)


def pairs_by_chance(seed, many, takings=0.4, most_people=4):
    """Companies with takings, and rules, by chance."""
    chance = Random(seed)
    for _ in range(many):
        yield some_company(chance, chance.randint(1, most_people), 0.5, takings), some_rule(chance)


def is_plain_set(company, rule, traces):
    """Whether these traces show that the rule mixes no letters."""
    return are_closed_traces(company, traces) and not any(is_bound_apart(company, rule, trace) for trace in traces)


class Finding(unittest.TestCase):
    def check(self, company, rule):
        """Check what is told, and return the number of letters, or None."""
        found = find_mixed(company, rule)
        self.assertIs(found.__class__, tuple)
        self.assertIs(is_mixed_paper(company, rule, found), True)
        self.assertIs(is_mixing(company, rule), found[0] == "lot")
        if found[0] == "never":
            self.assertEqual(found[1:], (tuple(sorted(plain_traces(company))),))
            self.assertTrue(is_plain_set(company, rule, found[1]))
            return None
        word, lot, first, second = found
        self.assertEqual((word, lot.bundle.company), ("lot", company))
        self.assertIn((min(first, second), max(first, second)), plain_mixed_pairs(rule, lot))
        return len(lot.bundle)

    def test_companies_by_chance(self):
        sizes = []
        for company, rule in pairs_by_chance(70, 150):
            many = self.check(company, rule)
            sizes.append(many)
            longest = 4 if many is None else min(many - 1, 5)
            if len(company.answers) + len(company.takings) <= 8:
                for letters in chains(company, longest):
                    self.assertFalse(binds_foreign(company, rule, letters), letters)
        self.assertTrue({None, 2, 3} <= set(sizes), sizes)
        self.assertGreater(sizes.count(None), 30)

    def test_no_lot_with_fewer_letters(self):
        looked = set()
        for company, rule in pairs_by_chance(71, 60, 0.3, 2):
            many = self.check(company, rule)
            looked.add(many)
            for fewer in range(1, 4 if many is None else min(many, 5)):
                rows = bundles_of(company, fewer)
                for letters in rows if len(rows) < 300 else rows[::7]:
                    bundle = Bundle(company, *letters)
                    for came in subsets(range(fewer)):
                        self.assertEqual(plain_mixed_pairs(rule, Lot(bundle, came)), ())
        self.assertTrue({None, 2, 3} <= looked, looked)

    def test_long_ways_are_needed(self):
        # What is taken stands alone in the list, and is bound when so many marks stand behind it as the rule asks.
        solo = Company(("a",), {("a", "a"): (ALL, True, ALL)}, takings={("a", "a"): (Cutter(".."), True, ALL)})
        told = [self.check(solo, Rule(Cutter(part))) for part in ("all", "..+", "+..", "-+..", "..+--", "..", "..+-")]
        self.assertEqual(told, [2, 2, 2, None, 4, None, 3])
        keeps = Company(("a",), {("a", "a"): (ALL, True, Cutter("+..+++"))}, takings={("a", "a"): (ALL, True, NONE)})
        self.assertEqual(self.check(keeps, WIDE), None)
        self.assertEqual(self.check(keeps.with_taking("a", "a", (ALL, True, LAST)), Rule(Cutter("..+--"))), 4)
        solo = Company(("a",), {("a", "a"): (ALL, True, ALL)}, takings={("a", "a"): (ALL, True, ALL)})
        self.assertEqual(self.check(solo, Rule(Cutter("..+--", "..+"))), 4)

    def test_a_lot_of_more_than_forty_letters_is_never_needed_here(self):
        for company, rule in pairs_by_chance(72, 80, 0.5):
            many = self.check(company, rule)
            self.assertTrue(many is None or many <= 12)

    def test_companies_without_takings(self):
        for company, rule in pairs_by_chance(73, 30, 0):
            self.assertIsNone(self.check(company, rule))

    def test_companies_that_nobody_starts_and_people_who_never_write(self):
        self.assertEqual(find_mixed(TAKES.with_starts(()), NARROW), ("never", ()))
        lonely = Company(("ann", "bob"), {}, takings={("bob", "ann"): (ALL, True, ALL)}, starts=("ann",))
        self.assertEqual(find_mixed(lonely, WIDE), ("never", (("ann", 0, 0, True),)))
        self.assertEqual(find_mixed(lonely.with_starts(("ann", "bob")), WIDE)[0], "lot")

    def test_rules_that_bind_nothing(self):
        for company, _ in pairs_by_chance(74, 30):
            self.assertIsNone(self.check(company, Rule(NONE, sees_lost=True)))

    def test_copies_decide(self):
        self.assertIs(is_mixing(TAKES, WIDE), True)
        self.assertIs(is_mixing(TAKES.with_copy("ann", NONE), WIDE), True)
        self.assertIs(is_mixing(TAKES.with_copy("ann", NONE).with_copy("bob", LAST), WIDE), False)

    def test_written_out(self):
        traces = (
            ("ann", 0, 0, True), ("ann", 2, 0, True), ("ann", 2, 1, True), ("ann", 2, 2, True), ("bob", 1, 0, True),
            ("bob", 1, 1, True), ("bob", 2, 0, True), ("bob", 2, 1, True), ("bob", 2, 2, True),
        )
        self.assertEqual(find_mixed(PLAIN, WIDE), ("never", traces))

    def test_other_names_change_nothing_but_the_names(self):
        names = {"ann": "zoe", "bob": "yan", "cyd": "xu", "dan": "wim"}
        for company, rule in pairs_by_chance(75, 30):
            told = {person: names[person] for person in company}
            one, other = find_mixed(company, rule), find_mixed(company.renamed(told), rule)
            self.assertEqual(one[0], other[0])
            if one[0] == "lot":
                self.assertEqual(len(one[1].bundle), len(other[1].bundle))
            else:
                self.assertEqual({(told[trace[0]], *trace[1:]) for trace in one[1]}, set(other[1]))


class Judging(unittest.TestCase):
    def test_sets_that_lack_one_or_have_more(self):
        accepted = 0
        for company, rule in pairs_by_chance(80, 60, 0.3, 3):
            chance = Random(str(company))
            least = sorted(plain_traces(company))
            for at in range(len(least)):
                self.assertIs(is_mixed_paper(company, rule, ("never", tuple(least[:at] + least[at + 1:]))), False)
            for _ in range(6):
                more = chance.sample(all_traces(company), chance.randint(1, 2))
                for traces in (plain_traces(company, more), plain_traces(company) | set(more)):
                    expected = is_plain_set(company, rule, traces)
                    accepted += expected and traces != set(least)
                    self.assertIs(is_mixed_paper(company, rule, ("never", tuple(sorted(traces)))), expected)
        self.assertGreater(accepted, 40)

    def test_members_that_cannot_be(self):
        company, rule = PLAIN, Rule(NONE)
        traces = find_mixed(company, rule)[1]
        self.assertIs(is_mixed_paper(company, rule, ("never", traces)), True)
        whole = tuple(sorted(all_traces(company)))
        self.assertIs(is_mixed_paper(company, rule, ("never", whole)), True)
        for wrong in (
            ("cyd", 0, 0, True), ("ann", 0, 1, True), ("ann", 7, 0, True), ("ann", 3, -1, True), ("ann", 3, 4, True),
            ("ann", 3, 3, False), ("ann", 6, 7, True), ("ann", -1, -1, True), ("ann", 3, 2), ("ann", 3, 2, True, True),
        ):
            self.assertIs(is_mixed_paper(company, rule, ("never", tuple(sorted([*traces, wrong])))), False, wrong)
        for wrong in (("ann", True, 0, True), ("ann", 1, True, True), ("ann", 3, 2, 1), ["ann", 3, 2, True], ("ann", 3, None, True)):
            self.assertIs(is_mixed_paper(company, rule, ("never", (*traces, wrong))), False, wrong)
        for at, trace in enumerate(traces):
            for value in several():
                for place in range(4):
                    told = list(trace)
                    told[place] = value
                    if tuple(told) == trace and value.__class__ is trace[place].__class__:
                        continue
                    if tuple(told) in all_traces(company) and value.__class__ is trace[place].__class__:
                        continue
                    paper = ("never", (*traces[:at], tuple(told), *traces[at + 1:]))
                    self.assertIs(is_mixed_paper(company, rule, paper), False, told)

    def test_members_that_cannot_be_though_nobody_answers_them(self):
        company = Company(("ann", "bob"), {})
        first = (("ann", 0, 0, True), ("bob", 0, 0, True))
        for trace in all_traces(company):
            paper = ("never", tuple(sorted({*first, trace})))
            self.assertIs(is_mixed_paper(company, Rule(ALL), paper), trace[3], trace)
            self.assertIs(is_mixed_paper(company, Rule(NONE), paper), True, trace)
        for trace in (
            ("bob", 3, 3, False), ("bob", 7, 0, True), ("bob", 7, 7, True), ("bob", 3, 4, True), ("bob", 3, -1, True),
            ("cyd", 3, 3, True), ("bob", 6, 6, False), ("bob", 6, 7, True), ("bob", 1, True, True), ("bob", True, 0, True),
        ):
            self.assertIs(is_mixed_paper(company, Rule(NONE), ("never", tuple(sorted([*first, trace])))), False, trace)

    def test_order_and_kind_of_the_tuple(self):
        traces = find_mixed(PLAIN, WIDE)[1]
        for value in (traces[::-1], (*traces, traces[-1]), list(traces), (traces,), {trace: 1 for trace in traces}, None):
            self.assertIs(is_mixed_paper(PLAIN, WIDE, ("never", value)), False, value)
        for value in (("never",), ("never", traces, traces), ("lot", traces), ("Never", traces), ["never", traces], traces):
            self.assertIs(is_mixed_paper(PLAIN, WIDE, value), False, value)

    def test_lots(self):
        accepted = 0
        for company, rule in pairs_by_chance(81, 60, 0.5, 3):
            chance = Random(str(company))
            lot = some_lot(chance, 9, company)
            pairs = plain_mixed_pairs(rule, lot)
            for first in range(-1, len(lot.bundle) + 1):
                for second in range(-1, len(lot.bundle) + 1):
                    expected = (min(first, second), max(first, second)) in pairs
                    accepted += expected
                    self.assertIs(is_mixed_paper(company, rule, ("lot", lot, first, second)), expected)
        self.assertGreater(accepted, 100)

    def test_lots_that_are_changed(self):
        word, lot, first, second = find_mixed(TAKES, NARROW)
        equal = Company(TAKES.people, TAKES.answers, takings=TAKES.takings, starts=("ann",))
        same = Lot(Bundle(equal, *lot.bundle.letters), lot.came)
        for value, expected in (
            ((word, lot, second, first), True), ((word, same, first, second), True), ((word, lot, first, first), False),
            ((word, lot.with_come(0).with_come(1), first, second), True), ((word, lot, first), False),
            ((word, lot.with_lost(first), first, second), False), (("never", lot, first, second), False),
            ((word, lot.bundle, first, second), False), ((word, lot, first, float(second)), False),
            ([word, lot, first, second], False), ((word, lot, first, second, second), False),
            ((word, lot, True, second), False), ((word, lot, None, second), False),
        ):
            self.assertIs(is_mixed_paper(TAKES, NARROW, value), expected, value)
        self.assertIs(is_mixed_paper(TAKES.with_copy("ann", TWO), NARROW, (word, lot, first, second)), False)
        more = Lot(lot.bundle + ("bob", 0, False), lot.came)
        self.assertIs(is_mixed_paper(TAKES, NARROW, (word, more, first, second)), True)

    def test_values_of_all_kinds(self):
        for value in several():
            self.assertIs(is_mixed_paper(TAKES, NARROW, value), False)
            for paper in ((value,), ("never", value), (value, ()), ("lot", value, 0, 1), ("lot", value), (value, value, value, value)):
                if value != ():
                    self.assertIs(is_mixed_paper(TAKES, NARROW, paper), False, paper)


class Pairs(unittest.TestCase):
    def test_lots_by_chance(self):
        chance = Random(82)
        many = 0
        for _ in range(150):
            company, rule = some_company(chance, None, 0.6, 0.5), some_rule(chance)
            lot = some_lot(chance, None, company)
            pairs = mixed_pairs(rule, lot)
            self.assertEqual(pairs, plain_mixed_pairs(rule, lot))
            self.assertIs(pairs.__class__, tuple)
            many += len(pairs)
            if not is_mixing(company, rule):
                self.assertEqual(pairs, ())
        self.assertGreater(many, 200)

    def test_a_chain_of_talks(self):
        letters = (("ann", None, True), ("bob", 0, False), ("ann", 1, True), ("bob", 2, False), ("ann", 3, True))
        bundle = Bundle(TAKES, *letters)
        self.assertEqual(mixed_pairs(NARROW, Lot(bundle, (1, 2, 3, 4))), ((1, 2), (1, 3), (1, 4), (2, 4), (3, 4)))
        self.assertEqual(mixed_pairs(NARROW, Lot(bundle, ())), ())


class Errors(unittest.TestCase):
    def test_errors_in_their_order(self):
        for value in several():
            if not isinstance(value, Company):
                for call in (
                    lambda: find_mixed(value, 3), lambda: is_mixing(value, 3), lambda: is_mixed_paper(value, 3, 3),
                ):
                    self.assertRaises(InvalidCompany, call)
            if not isinstance(value, Rule):
                for call in (
                    lambda: find_mixed(PLAIN, value), lambda: is_mixing(PLAIN, value),
                    lambda: is_mixed_paper(PLAIN, value, 3), lambda: mixed_pairs(value, 3),
                ):
                    self.assertRaises(InvalidRule, call)
            if not isinstance(value, Lot):
                self.assertRaises(InvalidLot, mixed_pairs, WIDE, value)

    def test_functions_stand_in_the_module_itself(self):
        for part in (find_mixed, is_mixing, is_mixed_paper, mixed_pairs):
            self.assertEqual(part.__module__, "namedabove.walk.mixed")


if __name__ == "__main__":
    unittest.main()
