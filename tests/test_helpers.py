"""[13.1], [13.2] and stage 13: who should help, and errors; limits are tested in test_limits_of_helpers."""

import unittest
from itertools import combinations
from random import Random

from namedabove.base.companies import Company
from namedabove.base.cutters import Cutter
from namedabove.errors import InvalidCompany, InvalidNumber, InvalidOperation, InvalidRule, TooMany, UnknownName
from namedabove.read.rules import Rule
from namedabove.walk.helpers import help_table, helped, helpers, helps
from namedabove.walk.parted import find_parted
from namedabove.walk.states import Walk
from tests.plain_talks import some_company
from tests.test_parted import KINS, questions
from tests.values import several

ALL, LAST, TWO, FIRST, NONE = Cutter("all"), Cutter("..+"), Cutter("..++"), Cutter("+.."), Cutter("..")
PLAIN = Company(("ann", "bob"), {("ann", "bob"): (ALL, True, TWO), ("bob", "ann"): (ALL, True, TWO)}, starts=("ann",))
WIDE, NARROW = Rule(ALL, sees_lost=True), Rule(LAST)


def all_sets(company):
    return [people for many in range(len(company) + 1) for people in combinations(company.people, many)]


def plain_helped(company, people):
    """The company helped by some people, made in the words of [13.1]."""
    told = [
        {
            (one, writer): (road, True, Cutter("all")) if writer in people else (road, adds, cutter)
            for (one, writer), (road, adds, cutter) in turns.items()
        }
        for turns in (company.answers, company.takings)
    ]
    return Company(company.people, told[0], takings=told[1], starts=company.starts, copies=company.copies)


def plain_helps(company, rule, one, other, people, kin, most):
    return find_parted(plain_helped(company, people), rule, one, other, kin=kin, most=most, limit=20000)[0] == "tables"


def plain_fewest(company, rule, one, other, kin, most):
    """The sets of fewest people that help."""
    helping = [people for people in all_sets(company) if plain_helps(company, rule, one, other, people, kin, most)]
    return tuple(people for people in helping if len(people) == len(helping[0]))


def many_states(company, rule, people):
    return len(Walk(plain_helped(company, people), rule).states(limit=20000))


def small_questions(seed, many, most_people=3, most_states=700):
    """Questions for which no helped company has many states."""
    return [
        question for question in questions(seed, many, 200, most_people)
        if max(count_states(question[0], question[1], people) for people in all_sets(question[0])) <= most_states
    ]


def count_states(company, rule, people):
    try:
        return many_states(company, rule, people)
    except TooMany:
        return 20001


class Helped(unittest.TestCase):
    def test_companies_by_chance(self):
        chance = Random(130)
        for _ in range(60):
            company = some_company(chance, None, 0.6, 0.4)
            for people in all_sets(company):
                told = helped(company, people)
                self.assertEqual(told, plain_helped(company, people))
                for turns in (told.answers, told.takings):
                    for (one, writer), turn in turns.items():
                        if writer in people:
                            self.assertEqual((turn[1], turn[2].parts), (True, ("all",)))
            self.assertEqual(helped(company, ()), company)

    def test_written_out(self):
        company = Company(
            ("ann", "bob"), {("ann", "bob"): (LAST, False, TWO), ("bob", "ann"): (TWO, True, FIRST)},
            takings={("bob", "bob"): (FIRST, False, LAST)}, starts=("bob",), copies={"ann": LAST},
        )
        told = helped(company, ("bob",))
        self.assertEqual(told.answers, {("ann", "bob"): (LAST, True, ALL), ("bob", "ann"): (TWO, True, FIRST)})
        self.assertEqual((told.takings, told.starts), ({("bob", "bob"): (FIRST, True, ALL)}, ("bob",)))
        self.assertEqual(told.copies, {"ann": LAST, "bob": Cutter()})


class Finding(unittest.TestCase):
    def check(self, question, most, limit=20000):
        company, rule, one, other, kin = question
        found = helpers(company, rule, one, other, kin=kin, most=most, limit=limit)
        self.assertEqual(found, plain_fewest(company, rule, one, other, kin, most))
        for people in all_sets(company):
            told = helps(company, rule, one, other, people, kin=kin, most=most, limit=limit)
            self.assertIs(told, plain_helps(company, rule, one, other, people, kin, most))
        return found

    def test_all_sets_of_small_companies(self):
        sizes = []
        for question in small_questions(131, 60):
            for most in (None, 0, 1, 2):
                found = self.check(question, most)
                self.assertEqual(list(found), sorted(found))
                sizes.append((len(found), len(found[0]) if found else None))
        self.assertTrue({(0, None), (1, 0), (1, 1)} <= set(sizes), set(sizes))
        self.assertTrue({(1, 2), (3, 2)} & set(sizes), set(sizes))

    def test_help_is_not_monotone(self):
        solo = Company(("a",), {("a", "a"): (ALL, True, FIRST)})
        rule = Rule(Cutter("..+++"), sees_lost=True)
        told = [helps(solo, rule, "a", "a", people, kin="beside") for people in ((), ("a",))]
        self.assertEqual(told, [True, False])
        self.assertEqual(helpers(solo, rule, "a", "a", kin="beside"), ((),))
        company = Company(("ann", "bob"), {
            ("ann", "ann"): (ALL, True, FIRST), ("ann", "bob"): (ALL, True, Cutter("-+..+-+", "++..+++")), ("bob", "ann"): (ALL, True, ALL),
        }, starts=("bob",))
        rule = Rule(Cutter("..+-", "..+++"), sees_lost=True)
        told = [helps(company, rule, "bob", "bob", people, kin="beside", most=0) for people in all_sets(company)]
        self.assertEqual(told, [False, False, True, False])
        self.assertEqual(self.check((company, rule, "bob", "bob", "beside"), 0), (("bob",),))

    def test_tables(self):
        for company, rule, _, _, kin in small_questions(132, 25, 3):
            for most in (None, 1):
                table = help_table(company, rule, kin=kin, most=most, limit=20000)
                pairs = [(one, other) for one in company for other in company]
                self.assertEqual(list(table), pairs)
                for one, other in pairs:
                    fewest = plain_fewest(company, rule, one, other, kin, most)
                    self.assertEqual(table[one, other], len(fewest[0]) if fewest else None)

    def test_four_people(self):
        people = ("a", "b", "c", "d")
        turns = {(one, other): (ALL, True, TWO if other in "bd" else ALL) for one in people for other in people if one != other}
        company = Company(people, turns, starts=("a",))
        rule = Rule(Cutter("+.."), sees_lost=True)
        self.assertEqual(helpers(company, rule, "a", "a", kin="above", most=1, limit=20000), (("b", "d"),))
        self.assertEqual(helpers(company, rule, "a", "a", kin="above", most=0, limit=20000), ((),))
        table = help_table(company, rule, kin="above", most=1, limit=20000)
        self.assertEqual(set(table.values()), {2})

    def test_companies_that_nobody_starts_and_people_who_never_write(self):
        self.assertEqual(helpers(PLAIN.with_starts(()), NARROW, "ann", "ann", kin="above"), ((),))
        lonely = Company(("ann", "bob"), {("bob", "ann"): (ALL, True, LAST)}, starts=("ann",))
        self.assertEqual(help_table(lonely, NARROW, kin="beside"), dict.fromkeys([(x, y) for x in lonely for y in lonely], 0))

    def test_other_names_change_nothing_but_the_names(self):
        names = {"ann": "zoe", "bob": "yan", "cyd": "xu"}
        for company, rule, one, other, kin in small_questions(133, 20):
            told = {person: names[person] for person in company}
            found = helpers(company, rule, one, other, kin=kin, most=1, limit=20000)
            again = helpers(company.renamed(told), rule, told[one], told[other], kin=kin, most=1, limit=20000)
            self.assertEqual({frozenset(told[person] for person in people) for people in found}, set(map(frozenset, again)))


class Errors(unittest.TestCase):
    def check_kept(self, call, error, attribute, value):
        with self.assertRaises(error) as caught:
            call()
        self.assertEqual(getattr(caught.exception, attribute), value)

    def test_errors_in_their_order(self):
        for value in several():
            if not isinstance(value, Company):
                self.assertRaises(InvalidCompany, helped, value, 3)
                self.assertRaises(InvalidCompany, helpers, value, 3, 3, 3, kin=3, most=-1, limit=0)
                self.assertRaises(InvalidCompany, helps, value, 3, 3, 3, 3, kin=3, most=-1, limit=0)
                self.assertRaises(InvalidCompany, help_table, value, 3, kin=3, most=-1, limit=0)
            if not isinstance(value, Rule):
                self.assertRaises(InvalidRule, helpers, PLAIN, value, 3, 3, kin=3, most=-1, limit=0)
                self.assertRaises(InvalidRule, helps, PLAIN, value, 3, 3, 3, kin=3, most=-1, limit=0)
                self.assertRaises(InvalidRule, help_table, PLAIN, value, kin=3, most=-1, limit=0)
            if value not in ("ann", "bob"):
                for call in (
                    lambda: helpers(PLAIN, WIDE, value, 3, kin=3, most=-1, limit=0),
                    lambda: helpers(PLAIN, WIDE, "ann", value, kin=3, most=-1, limit=0),
                    lambda: helps(PLAIN, WIDE, value, 3, 3, kin=3, most=-1, limit=0),
                    lambda: helps(PLAIN, WIDE, "ann", value, 3, kin=3, most=-1, limit=0),
                ):
                    self.check_kept(call, UnknownName, "name", value)
            if value not in ((), ("ann",), ("bob",), ("ann", "bob")):
                self.assertRaises(InvalidOperation, helped, PLAIN, value)
                self.assertRaises(InvalidOperation, helps, PLAIN, WIDE, "ann", "bob", value, kin="above", most=-1, limit=0)
            if value not in KINS:
                self.assertRaises(InvalidOperation, helpers, PLAIN, WIDE, "ann", "bob", kin=value, most=-1, limit=0)
                self.assertRaises(InvalidOperation, helps, PLAIN, WIDE, "ann", "bob", (), kin=value, most=-1, limit=0)
                self.assertRaises(InvalidOperation, help_table, PLAIN, WIDE, kin=value, most=-1, limit=0)
            self.check_numbers(value)

    def check_numbers(self, value):
        whole = isinstance(value, int) and not isinstance(value, bool)
        for most, limit in ((value, 0), (1, value)):
            calls = (
                lambda: helpers(PLAIN, WIDE, "ann", "bob", kin="above", most=most, limit=limit),
                lambda: helps(PLAIN, WIDE, "ann", "bob", (), kin="above", most=most, limit=limit),
                lambda: help_table(PLAIN, WIDE, kin="above", most=most, limit=limit),
            )
            fits = whole and 0 <= value <= 1000 or value is None if limit == 0 else whole and 1 <= value <= 20000
            for call in calls:
                if not fits:
                    self.check_kept(call, InvalidNumber, "value", value)
                elif limit == 0:
                    self.check_kept(call, InvalidNumber, "value", 0)

    def test_sets_that_are_none(self):
        for people in (("bob", "ann"), ("ann", "ann"), ("cyd",), ["ann"], {"ann": 1}, "ann", ("ann", None), ("ann", ())):
            self.assertRaises(InvalidOperation, helped, PLAIN, people)

    def test_functions_stand_in_the_module_itself(self):
        for part in (helped, helpers, helps, help_table):
            self.assertEqual(part.__module__, "namedabove.walk.helpers")


if __name__ == "__main__":
    unittest.main()
