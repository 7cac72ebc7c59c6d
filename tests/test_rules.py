"""[0.13] and stage 5: rules, what they bind, and their errors."""

import unittest
from itertools import product
from random import Random

from namedabove.base.companies import Company
from namedabove.base.cutters import Cutter
from namedabove.errors import InvalidBundle, InvalidCompany, InvalidCutter, InvalidOperation, InvalidRule, UnknownName
from namedabove.read.rules import Rule
from namedabove.talk.bundles import Bundle
from tests.plain_cutters import SOME_PARTS, kept_by_parts, plain_places
from tests.plain_talks import plain_bound, some_company, some_letters, some_rule
from tests.values import several

ALL, LAST, TWO = Cutter("all"), Cutter("..+"), Cutter("..++")
SOLO = Company(("a",), {("a", "a"): (ALL, True, ALL)}, copies={"a": Cutter("+..+++")})
ROW = (("a", None, True), *(("a", mark, False) for mark in range(6)))


class Making(unittest.TestCase):
    def test_seeing_and_blind(self):
        for rule, sees in ((Rule(LAST), False), (Rule(LAST, sees_lost=False), False), (Rule(LAST, sees_lost=True), True)):
            self.assertIs(rule.sees_lost, sees)
            self.assertEqual(rule.cutter, LAST)
            self.assertIs(rule.cutter.__class__, Cutter)
            for other, expected in ((rule.seeing(), True), (rule.blind(), False)):
                self.assertIs(other.sees_lost, expected)
                self.assertEqual(other.cutter.parts, ("..+",))
                self.assertIs(other.__class__, Rule)
            self.assertIs(rule.sees_lost, sees)

    def test_errors(self):
        for value in several():
            if not isinstance(value, Cutter):
                self.assertRaises(InvalidCutter, Rule, value)
                self.assertRaises(InvalidCutter, Rule, value, sees_lost=3)
            if not isinstance(value, bool):
                self.assertRaises(InvalidRule, Rule, LAST, sees_lost=value)
        self.assertRaises(TypeError, Rule, LAST, True)

    def test_a_rule_never_changes(self):
        rule = Rule(LAST)
        for name in ("cutter", "sees_lost"):
            with self.assertRaises(AttributeError):
                setattr(rule, name, ALL)
        self.assertRaises(TypeError, iter, rule)
        self.assertRaises(TypeError, len, rule)
        self.assertRaises(TypeError, lambda: 0 in rule)

    def test_str(self):
        for parts, text in (((), "all"), (("..+",), "..+"), (("+..", "..+"), "+.. > ..+"), (("all",) * 2, "all > all")):
            self.assertEqual(str(Rule(Cutter(*parts))), f"rule {text}")
            self.assertEqual(str(Rule(Cutter(*parts), sees_lost=True)), f"seeing rule {text}")


class Rows(unittest.TestCase):
    def test_what_is_kept_of_a_row(self):
        for parts in ((), ("..+",), ("+..-+", "..+")):
            for many in (0, 1, 2, 5, 6, 40, 1000):
                row = tuple(f"value {at}" for at in range(many))
                for rule in (Rule(Cutter(*parts)), Rule(Cutter(*parts), sees_lost=True)):
                    self.assertEqual(rule(row), kept_by_parts(parts, row))
        self.assertEqual(Rule(LAST)(([1], None, True)), (True,))

    def test_rows_that_are_none(self):
        for rule in (Rule(ALL), Rule(LAST, sees_lost=True)):
            for many in (1001, 1002, 3000):
                self.assertRaises(InvalidOperation, rule, (0,) * many)
            for value in several():
                if not isinstance(value, tuple):
                    self.assertRaises(InvalidOperation, rule, value)


class Bound(unittest.TestCase):
    def test_roads_of_copies_that_cut(self):
        bundle = Bundle(SOLO, *ROW)
        self.assertEqual([bundle.copy_of(mark) for mark in (2, 4, 5, 6)], [(0, 1), (0, 1, 2, 3), (0, 2, 3, 4), (0, 3, 4, 5)])
        for parts, expected in (
            (("..+",), (5,)), (("+..",), (0,)), (("-+..",), (3,)), ((), (0, 3, 4, 5)), (("..",), ()), (("..+-",), (4,)),
        ):
            for sees in (True, False):
                self.assertEqual(Rule(Cutter(*parts), sees_lost=sees).bound(bundle, 6), expected)

    def test_bound_and_through_by_chance(self):
        chance = Random(8)
        for _ in range(200):
            company = some_company(chance)
            letters = some_letters(chance, company, chance.choice((4, 12, 25)))
            bundle = Bundle(company, *letters)
            rule = some_rule(chance)
            for mark in range(len(letters)):
                expected = plain_bound(rule, company, letters, mark)
                self.assertEqual(rule.bound(bundle, mark), expected)
                through = rule.through(company, letters[mark][0])
                self.assertEqual(through(bundle.list_of(mark)), expected)

    def test_order_of_errors(self):
        bundle = Bundle(SOLO, *ROW)
        for value in several():
            if not isinstance(value, Bundle):
                self.assertRaises(InvalidBundle, Rule(ALL).bound, value, 99)
            if not isinstance(value, Company):
                self.assertRaises(InvalidCompany, Rule(ALL).through, value, "eve")
            if isinstance(value, bool) or value not in range(7):
                with self.assertRaises(UnknownName) as caught:
                    Rule(ALL).bound(bundle, value)
                self.assertEqual(caught.exception.name, value)
                self.assertIs(caught.exception.name.__class__, value.__class__)
            if value != "a":
                with self.assertRaises(UnknownName) as caught:
                    Rule(ALL).through(SOLO, value)
                self.assertEqual(caught.exception.name, value)
        for value in (True, False, 7, -1, 1000):
            self.assertRaises(UnknownName, Rule(LAST).bound, bundle, value)
        self.assertRaises(UnknownName, Rule(LAST).bound, Bundle(SOLO), 0)


class Through(unittest.TestCase):
    def test_two_to_eight_parts(self):
        chance = Random(9)
        for first, second in product(range(5), range(5)):
            for _ in range(6):
                one = tuple(chance.choice(SOME_PARTS) for _ in range(first))
                other = tuple(chance.choice(SOME_PARTS) for _ in range(second))
                cutter = Rule(Cutter(*other)).through(SOLO.with_copy("a", Cutter(*one)), "a")
                self.assertIs(cutter.__class__, Cutter)
                self.assertEqual((cutter.parts, len(cutter)), (one + other, first + second))
                self.assertEqual(str(cutter), " > ".join(one + other) or "all")
                for many in (*range(9), 30, 1000):
                    self.assertEqual(cutter.places(many), plain_places(one + other, many))
                self.assertIs(cutter.keeps_all, set(one + other) <= {"all"})

    def test_a_cutter_with_more_parts_can_be_passed(self):
        four = Cutter("all", "all", "++..+++", "all")
        eight = Rule(four).through(SOLO.with_copy("a", four), "a")
        self.assertEqual((len(eight), eight == Cutter("++..+++"), eight.is_within(ALL)), (8, True, True))
        self.assertEqual(Rule(eight), Rule(Cutter("++..+++")))
        company = SOLO.with_copy("a", eight).with_answer("a", "a", (eight, True, eight))
        self.assertEqual(len(Rule(eight).through(company, "a")), 16)
        self.assertEqual(Bundle(company, *ROW).list_of(6), (0, 1, 3, 4, 5))


class Within(unittest.TestCase):
    def test_all_four_pairs_of_seeing_and_blind(self):
        for one, other in product((False, True), repeat=2):
            small, large = Rule(LAST, sees_lost=one), Rule(TWO, sees_lost=other)
            self.assertIs(small.is_within(large), other or not one)
            self.assertIs(large.is_within(small), False)
            self.assertIs(small.is_within(Rule(Cutter("..-+"), sees_lost=other)), other or not one)
            self.assertIs(small.is_within(Rule(Cutter("+.."), sees_lost=other)), False)

    def test_what_is_no_rule(self):
        for value in several():
            if not isinstance(value, Rule):
                self.assertRaises(InvalidRule, Rule(LAST).is_within, value)


class Equal(unittest.TestCase):
    def test_alike_cutters(self):
        rules = [Rule(LAST), Rule(LAST, sees_lost=True), Rule(TWO), Rule(TWO, sees_lost=True)]
        again = [
            Rule(Cutter("..-+")), Rule(Cutter("..-+", "all"), sees_lost=True), Rule(Cutter("all", "..++")),
            Rule(Cutter("..-++"), sees_lost=True),
        ]
        for (at, one), (number, other) in product(enumerate(rules), enumerate(again)):
            self.assertIs(one == other, at == number)
            self.assertIs(one != other, at != number)

    def test_other_values(self):
        for value in several():
            self.assertIs(Rule(TWO) == value, False)
            self.assertIs(value == Rule(TWO), False)
            self.assertIs(Rule(TWO) != value, True)
        self.assertIs(Rule(TWO) == TWO, False)

    def test_arguments_stay_as_they_are(self):
        for value, again in zip(several(), several()):
            for call in (lambda: Rule(ALL)(value), lambda: Rule(ALL).bound(value, value), lambda: Rule(ALL, sees_lost=value)):
                try:
                    call()
                except (InvalidBundle, InvalidOperation, InvalidRule, UnknownName):
                    pass
            self.assertEqual(value, again)

    def test_methods_stand_in_the_class_itself(self):
        for name in (
            "__init__", "cutter", "sees_lost", "__call__", "bound", "through", "seeing", "blind", "is_within", "__eq__",
            "__str__",
        ):
            self.assertIn(name, vars(Rule))
        self.assertEqual(Rule.__module__, "namedabove.read.rules")


if __name__ == "__main__":
    unittest.main()
