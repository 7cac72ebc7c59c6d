"""[0.18], [11.1] to [11.5] and stage 11: two ways to read, what shows that they are alike, and errors."""

import unittest
from random import Random

from namedabove.base.companies import Company
from namedabove.base.cutters import Cutter
from namedabove.errors import InvalidCompany, InvalidRule
from namedabove.read.lots import Lot, groups
from namedabove.read.rules import Rule
from namedabove.talk.bundles import Bundle
from namedabove.walk.alike import are_alike, binds_more, find_unlike, is_alike_paper
from tests.plain_lots import plain_group, plain_neighbours, some_lot
from tests.plain_talks import plain_bound, some_company, some_rule
from tests.plain_ways import bundles_of, chains, meet_alike, plain_closed_pair
from tests.test_parted import single_trees
from tests.values import several

ALL, LAST, TWO, NONE = Cutter("all"), Cutter("..+"), Cutter("..++"), Cutter("..")
PLAIN = Company(("ann", "bob"), {("ann", "bob"): (ALL, True, TWO), ("bob", "ann"): (ALL, True, TWO)}, starts=("ann",))
WIDE, NARROW = Rule(ALL, sees_lost=True), Rule(LAST)


def near_rule(chance, rule):
    """A rule that is much like another one: with a part more or less, or that sees what the other one does not."""
    parts = rule.cutter.parts
    cutter = chance.choice([
        rule.cutter, Cutter(*parts[:-1]), Cutter(*parts[:2], chance.choice(("all", "+..+++", "++..+++", "..+", "-+..+++"))),
    ])
    return Rule(cutter, sees_lost=chance.random() < 0.5)


def questions(seed, many, most_people=3):
    """Companies and two rules by chance, small enough for views to be looked at in every way."""
    chance = Random(seed)
    told = []
    while len(told) < many:
        company, one = some_company(chance, chance.randint(1, most_people), 0.5), some_rule(chance)
        other = chance.choice((near_rule(chance, one), near_rule(chance, one), some_rule(chance)))
        if len(plain_closed_pair(company)[1]) < 150:
            told.append((company, one, other))
    return told


def are_unlike_there(one, other, lot, first, second):
    """Whether two letters are together by one rule alone."""
    return (second in plain_group(one, lot, first)) != (second in plain_group(other, lot, first))


def least_unlike(company, one, other, rows):
    """The least number of letters of which two are together by one rule alone, if only they came; None for none."""
    for letters in sorted(rows, key=len):
        bundle = Bundle(company, *letters)
        for second in range(len(letters)):
            for first in range(second):
                lot = Lot(bundle, (first, second))
                if (first in plain_neighbours(one, lot)[second]) != (first in plain_neighbours(other, lot)[second]):
                    return len(letters)
    return None


def is_plain_pair(company, one, other, bases, views):
    """Whether bases and views are closed and show that the rules are alike."""
    if plain_closed_pair(company, bases, views) != (set(bases), set(views)):
        return False
    return all(
        meet_alike(company, (one, other), base, [view for view in views if view[0] == base])
        for base in {*bases, *(view[0] for view in views)}
    )


class Finding(unittest.TestCase):
    def check(self, company, one, other):
        """Check what is told, and return the number of letters, or None."""
        found = find_unlike(company, one, other)
        self.assertIs(found.__class__, tuple)
        self.assertIs(is_alike_paper(company, one, other, found), True)
        self.assertIs(is_alike_paper(company, other, one, found), True)
        self.assertIs(are_alike(company, one, other), found[0] == "alike")
        self.assertIs(are_alike(company, other, one), found[0] == "alike")
        if found[0] == "alike":
            bases, views = plain_closed_pair(company)
            self.assertEqual(found[1:], (tuple(sorted(bases)), tuple(sorted(views))))
            self.assertTrue(is_plain_pair(company, one, other, *found[1:]))
            return None
        word, lot, first, second = found
        self.assertEqual((word, lot.bundle.company, sorted((first, second))), ("lot", company, list(lot.came)))
        self.assertTrue(are_unlike_there(one, other, lot, first, second))
        return len(lot.bundle)

    def test_questions_by_chance(self):
        sizes = [self.check(*question) for question in questions(90, 120)]
        self.assertTrue({None, 2, 3, 4} <= set(sizes), sizes)
        self.assertGreater(sizes.count(None), 20)

    def test_no_lot_with_fewer_letters(self):
        sizes = []
        for company, one, other in questions(91, 80, 2):
            rows = single_trees(company, 5)
            if len(rows) > 1500:
                rows = single_trees(company, 4)
            longest = max((len(row) for row in rows), default=0)
            many = self.check(company, one, other)
            least = least_unlike(company, one, other, rows)
            self.assertEqual(many if many is not None and many <= longest else None, least)
            sizes.append(least)
        self.assertTrue({None, 2, 3, 4} <= set(sizes), sizes)

    def test_all_bundles_of_a_few_letters(self):
        for company, one, other in questions(92, 40, 2):
            many = self.check(company, one, other)
            least = least_unlike(company, one, other, [row for size in (1, 2, 3) for row in bundles_of(company, size)])
            self.assertEqual(many if many is not None and many <= 3 else None, least)

    def test_alike_rules_group_all_lots_alike(self):
        chance = Random(93)
        looked = 0
        for company, one, other in questions(94, 60):
            if are_alike(company, one, other):
                for _ in range(8):
                    lot = some_lot(chance, None, company)
                    looked += len(groups(one, lot)) < len(lot.came)
                    self.assertEqual(groups(one, lot), groups(other, lot))
        self.assertGreater(looked, 30)

    def test_blind_and_seeing(self):
        # Each binds the mark above alone, so two letters beside one another share it, but only the seeing rule sees it.
        for company, one, other, expected in (
            (PLAIN, NARROW, NARROW.seeing(), 3), (PLAIN, NARROW, NARROW.blind(), None), (PLAIN, WIDE, WIDE.blind(), 3),
            (PLAIN, Rule(NONE), Rule(NONE, sees_lost=True), None), (PLAIN, WIDE, Rule(TWO, sees_lost=True), None),
            (PLAIN, WIDE, NARROW.seeing(), 3), (PLAIN, Rule(ALL), NARROW, 3), (PLAIN, Rule(NONE), NARROW, 2),
        ):
            self.assertEqual(self.check(company, one, other), expected)

    def test_alike_on_all_ways_but_not_in_all_lots(self):
        # On one way the first mark of a list is enough to be together; side by side a later one can be in common.
        first = Cutter("+..")
        solo = Company(("a",), {("a", "a"): (NONE, True, first)}, takings={("a", "a"): (ALL, True, ALL)})
        one, other = Rule(ALL, sees_lost=True), Rule(first, sees_lost=True)
        self.assertIsNone(least_unlike(solo, one, other, chains(solo, 8)))
        self.assertEqual(self.check(solo, one, other), 4)
        self.assertIs(are_alike(solo, one, other), False)

    def test_blind_rules_are_alike_if_they_are_on_all_ways(self):
        alike = 0
        for company, one, other in questions(102, 80, 2):
            one, other = one.blind(), other.blind()
            ways = chains(company, 5)
            if len(ways) < 500:
                many, least = self.check(company, one, other), least_unlike(company, one, other, ways)
                self.assertEqual(many if many is not None and many <= 5 else None, least)
                alike += many is None
        self.assertGreater(alike, 10)

    def test_same_marks_on_each_way_put_together_are_no_alike_rules(self):
        # [0.19]: rules that put the same letters of each way together.
        solo = Company(("a",), {("a", "a"): (ALL, True, TWO)})
        self.assertEqual(self.check(solo, Rule(ALL, sees_lost=True), Rule(LAST, sees_lost=True)), 3)

    def test_long_lists(self):
        solo = Company(("a",), {("a", "a"): (ALL, True, ALL)})
        told = [
            self.check(solo, Rule(Cutter("++..+++")), other)
            for other in (Rule(ALL), Rule(Cutter("++..++")), Rule(Cutter("++..+++", "all")), Rule(Cutter("+..+++")))
        ]
        self.assertEqual(told, [7, 6, None, 6])
        # Whoever sees lost marks finds one of those that are bound in any case.
        self.assertEqual(self.check(solo, Rule(ALL, sees_lost=True), Rule(Cutter("++..+++"), sees_lost=True)), None)

    def test_companies_that_nobody_starts_and_people_who_never_write(self):
        empty = PLAIN.with_starts(())
        self.assertEqual(find_unlike(empty, WIDE, Rule(NONE)), ("alike", (), ()))
        lonely = Company(("ann", "bob"), {("bob", "ann"): (ALL, True, ALL)}, starts=("ann",))
        self.assertEqual(find_unlike(lonely, WIDE, Rule(NONE)), ("alike", (("ann", 0),), ()))

    def test_other_names_change_nothing_but_the_names(self):
        names = {"ann": "zoe", "bob": "yan", "cyd": "xu", "dan": "wim"}
        for company, one, other in questions(95, 30):
            told = {person: names[person] for person in company}
            here, there = find_unlike(company, one, other), find_unlike(company.renamed(told), one, other)
            self.assertEqual(here[0], there[0])
            if here[0] == "lot":
                self.assertEqual(len(here[1].bundle), len(there[1].bundle))
            else:
                self.assertEqual({(told[person], many) for person, many in here[1]}, set(there[1]))
                views = {((told[base[0]], base[1]), told[person], row) for base, person, row in here[2]}
                self.assertEqual(views, set(there[2]))


class Binding(unittest.TestCase):
    def test_binds_more_against_ways(self):
        results = set()
        for company, one, other in questions(96, 120, 2):
            rows = chains(company, 9 if len(chains(company, 4)) < 20 else 5)
            told = binds_more(company, one, other)
            results.add((told, one.sees_lost, other.sees_lost))
            within = all(
                set(plain_bound(one, company, row, len(row) - 1)) <= set(plain_bound(other, company, row, len(row) - 1))
                for row in rows
            ) and (other.sees_lost or not one.sees_lost)
            if told or max(map(len, rows), default=0) == 9:
                self.assertIs(told, within)
        self.assertEqual(len(results), 7, results)

    def test_who_binds_more_parts_less(self):
        chance = Random(97)
        for company, one, other in questions(98, 80):
            if binds_more(company, one, other):
                for _ in range(6):
                    lot = some_lot(chance, None, company)
                    for group in groups(one, lot):
                        self.assertTrue(any(set(group) <= set(more) for more in groups(other, lot)))

    def test_rules_that_are_within_bind_more(self):
        for company, one, other in questions(99, 60):
            if one.is_within(other) and all(company.copy(person).keeps_all for person in company):
                self.assertIs(binds_more(company, one, other), True)
        told = [binds_more(PLAIN, one, other) for one in (NARROW, NARROW.seeing()) for other in (NARROW, NARROW.seeing())]
        self.assertEqual(told, [True, True, False, True])


class Judging(unittest.TestCase):
    def test_pairs_that_lack_one_or_have_more(self):
        accepted = refused = 0
        for company, one, other in questions(100, 40, 2):
            chance = Random(f"{company} {one} {other}")
            bases, views = plain_closed_pair(company)
            bases, views = sorted(bases), sorted(views)
            for at in range(0, len(bases), 2):
                paper = ("alike", tuple(bases[:at] + bases[at + 1:]), tuple(views))
                self.assertIs(is_alike_paper(company, one, other, paper), False)
            for at in range(0, len(views), 3):
                paper = ("alike", tuple(bases), tuple(views[:at] + views[at + 1:]))
                self.assertIs(is_alike_paper(company, one, other, paper), False)
            for _ in range(4):
                base = (chance.choice(company.people), chance.randrange(7))
                row = tuple(chance.choice([*range(base[1] + 1), 7]) for _ in range(chance.randrange(6)))
                for more in (((base,), ()), ((base,), ((base, chance.choice(company.people), (row, (), ())),))):
                    told = plain_closed_pair(company, *[[*part, *new] for part, new in zip((bases, views), more)])
                    if len(told[1]) > 200:
                        continue
                    expected = is_plain_pair(company, one, other, *told)
                    paper = ("alike", tuple(sorted(told[0])), tuple(sorted(told[1])))
                    self.assertIs(is_alike_paper(company, one, other, paper), expected)
                    accepted += expected
                    refused += not expected and are_alike(company, one, other)
        self.assertGreater(accepted, 30)
        self.assertGreater(refused, 3)

    def paper(self, bases=(), views=()):
        found = find_unlike(PLAIN, NARROW, Rule(Cutter("..-+")))
        return ("alike", tuple(sorted([*found[1], *bases])), tuple(sorted([*found[2], *views])))

    def is_paper(self, value):
        return is_alike_paper(PLAIN, NARROW, Rule(Cutter("..-+")), value)

    def test_members_that_cannot_be(self):
        self.assertIs(self.is_paper(self.paper()), True)
        for wrong in (("cyd", 0), ("ann", 7), ("ann", -1), ("ann", 3, 3), ("ann",)):
            self.assertIs(self.is_paper(self.paper((wrong,))), False, wrong)
        word, bases, views = self.paper()
        for wrong in (("ann", True), ("ann", None), ["ann", 2], ("ann", "2"), (None, 2), "ann", None, 7, ["ann"], {}):
            self.assertIs(self.is_paper((word, (*bases, wrong), views)), False, wrong)
        base = bases[-1]
        self.assertEqual(base, ("bob", 2))
        good = ((0, 1), (2, 7), (7, 7, 7))
        self.assertIs(self.is_paper(self.paper((), [(base, "bob", good), (base, "ann", ((1, 7), (), ()))])), True)
        for row in (
            ((0, 1), (7, 2), (7, 7, 7)), ((0, 1), (2, 2), (7, 7, 7)), ((0, 1), (), (7, 7, 7)), ((0, 1), (2,), (7, 7)),
            ((0, 1, 2), (2,), (7, 7, 7)), ((0, 3), (), ()), ((0, 1), (3,), (7, 7, 7)), ((0, 1), (2,), (7, 7, 6)),
            ((0, 1), (2,), ()), ((0, 1, 1, 1, 1, 1), (), ()), ((), (), (7, 7, 7)), ((0, -1), (), ()), ((0, 8), (), ()),
            ((0, True), (), ()), ([0, 1], (), ()), ((0, 1), [], ()), ((0, 1), (), []), (0, 1), None, ((0, 1), ()),
            ((0, 1), (), (), ()), [(0, 1), (), ()], ((0, None), (), ()),
        ):
            self.assertIs(self.is_paper((word, bases, (*views, (base, "bob", row)))), False, row)
        for wrong in (
            (("bob", 7), "bob", good), (base, "cyd", good), (base, "bob"), (base, "bob", good, good), [base, "bob", good],
            (base, None, good), (base, True, good), (("cyd", 2), "bob", good), None, 3, base,
        ):
            self.assertIs(self.is_paper((word, bases, (*views, wrong))), False, wrong)

    def test_members_that_cannot_be_though_nobody_answers_them(self):
        company = Company(("ann", "bob"), {})
        bases = (("ann", 0), ("bob", 0))
        for base, expected in (
            (("bob", 6), True), (("bob", 7), False), (("bob", -1), False), (("bob", True), False), (("bob", None), False),
            (("cyd", 0), False), (("bob", 1, 1), False), (("bob",), False),
        ):
            paper = ("alike", tuple(sorted([*bases, base])) if len(base) != 2 or base[1].__class__ is int else (*bases, base), ())
            self.assertIs(is_alike_paper(company, NARROW, NARROW, paper), expected, base)
            short = ((), (), ())
            self.assertIs(is_alike_paper(company, NARROW, NARROW, ("alike", bases, ((base, "ann", short),))), expected, base)
        for many in range(7):
            for place in (-1, *range(9), True, None):
                right = place.__class__ is int and (0 <= place <= many or place == 7)
                view = (("bob", many), "ann", ((place,), (), ()))
                self.assertIs(is_alike_paper(company, NARROW, NARROW, ("alike", bases, (view,))), right, view)

    def test_views_of_a_base_that_is_not_there(self):
        view = (("bob", 6), "bob", ((), (), ()))
        company = Company(("ann", "bob"), {})
        paper = ("alike", (("ann", 0), ("bob", 0)), (view,))
        self.assertIs(is_alike_paper(company, NARROW, NARROW.seeing(), paper), True)
        seen = ("alike", (("ann", 0), ("bob", 0)), ((("bob", 6), "bob", ((5,), (), ())),))
        self.assertIs(is_alike_paper(company, NARROW, NARROW.seeing(), seen), False)

    def test_order_and_kind(self):
        word, bases, views = self.paper()
        for value in (
            (word, bases[::-1], views), (word, bases, views[::-1]), (word, list(bases), views), (word, bases, list(views)),
            (word, (*bases, bases[-1]), views), (word, bases, (views[0], *views)), (word, bases), (word, views, bases),
            (word, bases, views, ()), ("lot", bases, views), [word, bases, views], ("never", bases, views), (), (word,),
            (word, dict.fromkeys(bases), views), (word, bases, None),
        ):
            self.assertIs(self.is_paper(value), False, value)

    def test_lots(self):
        accepted = 0
        chance = Random(103)
        for company, one, other in questions(101, 80, 2):
            lot = some_lot(chance, 8, company)
            other = some_rule(chance)
            for first in range(-1, len(lot.bundle) + 1):
                for second in range(-1, len(lot.bundle) + 1):
                    both = first in lot.came and second in lot.came
                    expected = both and are_unlike_there(one, other, lot, first, second)
                    accepted += expected
                    self.assertIs(is_alike_paper(company, one, other, ("lot", lot, first, second)), expected)
        self.assertGreater(accepted, 60)

    def test_lots_that_are_changed(self):
        word, lot, first, second = find_unlike(PLAIN, WIDE, NARROW)
        equal = Lot(Bundle(PLAIN.with_starts(("ann",)), *lot.bundle.letters), lot.came)
        for value, expected in (
            ((word, lot, second, first), True), ((word, equal, first, second), True), ((word, lot, first, first), False),
            ((word, Lot(lot.bundle, (0, 1, 2)), first, second), False), ((word, lot, first), False),
            ((word, lot.with_lost(first), first, second), False), (("alike", lot, first, second), False),
            ((word, lot.bundle, first, second), False), ([word, lot, first, second], False), ((word, lot, False, second), False),
            ((word, Lot(lot.bundle + ("bob", 0, False), lot.came), first, second), True),
        ):
            self.assertIs(is_alike_paper(PLAIN, WIDE, NARROW, value), expected, value)
        self.assertIs(is_alike_paper(PLAIN.with_copy("bob", TWO), WIDE, NARROW, (word, lot, first, second)), False)

    def test_values_of_all_kinds(self):
        for value in several():
            self.assertIs(self.is_paper(value), False)
            for paper in (
                (value,), ("alike", value), ("alike", value, value), (value, (), ()), ("lot", value, 0, 1),
                ("alike", (value,), ()), ("alike", (), (value,)), (value, value, value, value),
            ):
                self.assertIs(self.is_paper(paper), False, paper)


class Errors(unittest.TestCase):
    def test_errors_in_their_order(self):
        for value in several():
            for function in (find_unlike, are_alike, binds_more, lambda *told: is_alike_paper(*told, 3)):
                if not isinstance(value, Company):
                    self.assertRaises(InvalidCompany, function, value, 3, 3)
                if not isinstance(value, Rule):
                    self.assertRaises(InvalidRule, function, PLAIN, value, 3)
                    self.assertRaises(InvalidRule, function, PLAIN, value, WIDE)
                    self.assertRaises(InvalidRule, function, PLAIN, WIDE, value)

    def test_functions_stand_in_the_module_itself(self):
        for part in (find_unlike, are_alike, is_alike_paper, binds_more):
            self.assertEqual(part.__module__, "namedabove.walk.alike")


if __name__ == "__main__":
    unittest.main()
