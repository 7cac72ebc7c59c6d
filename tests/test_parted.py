"""[0.16], [8.1], [8.2] and stage 8: partings, the tables that show that there is none, and their errors."""

import unittest
from random import Random

from namedabove.base.companies import Company
from namedabove.base.cutters import Cutter
from namedabove.errors import InvalidCompany, InvalidNumber, InvalidOperation, InvalidRule, TooMany, UnknownName
from namedabove.read.lots import Lot
from namedabove.read.rules import Rule
from namedabove.talk.bundles import Bundle
from namedabove.walk.parted import find_parted, is_parted_paper, least_break, least_losses
from namedabove.walk.states import Walk
from tests.plain_lots import is_plain_parting, some_lot
from tests.plain_talks import rows_that_grow, some_company, some_rule
from tests.plain_walks import are_plain_tables, plain_colours, plain_states
from tests.values import several

ALL, LAST, TWO, FIRST, NONE = Cutter("all"), Cutter("..+"), Cutter("..++"), Cutter("+.."), Cutter("..")
PLAIN = Company(("ann", "bob"), {("ann", "bob"): (ALL, True, TWO), ("bob", "ann"): (ALL, True, TWO)}, starts=("ann",))
WIDE, NARROW = Rule(ALL, sees_lost=True), Rule(LAST)
KINS = ("above", "beside")


def questions(seed, many, most_states=250, most_people=2):
    """Companies, rules and people by chance, small enough to be looked at in every way."""
    chance = Random(seed)
    told = []
    while len(told) < many:
        company, rule = some_company(chance, chance.randint(1, most_people)), some_rule(chance)
        try:
            Walk(company, rule).states(limit=most_states)
        except TooMany:
            continue
        people = chance.choice(company.people), chance.choice(company.people)
        told.append((company, rule, *people, chance.choice(KINS)))
    return told


def single_trees(company, many):
    """The rows of up to so many letters that hang together, each letter behind those written upon earlier ones."""
    return rows_that_grow(company, many, lambda row, letter: letter[1] >= (row[-1][1] or 0))


def subsets(marks):
    told = [()]
    for mark in marks:
        told += [(*row, mark) for row in told]
    return told


def plain_partings(company, rule, one, other, kin, many):
    """All partings with up to so many letters."""
    for letters in single_trees(company, many):
        bundle = Bundle(company, *letters)
        for came in subsets(range(len(letters))):
            lot = Lot(bundle, came)
            for first in came:
                for second in came:
                    if is_plain_parting(rule, company, one, other, kin, lot, first, second):
                        yield lot, first, second


class Finding(unittest.TestCase):
    def check_lot(self, question, found, most):
        company, rule, one, other, kin = question
        word, lot, first, second = found
        self.assertEqual((word, found.__class__), ("lot", tuple))
        self.assertTrue(is_plain_parting(rule, company, one, other, kin, lot, first, second))
        self.assertTrue(most is None or len(lot) <= most)
        self.assertIs(is_parted_paper(company, rule, one, other, found, kin=kin, most=most), True)

    def check_tables(self, question, found, most):
        company, rule, one, other, kin = question
        self.assertEqual((found[0], len(found), found.__class__), ("tables", 4, tuple))
        states = plain_states(company, rule)
        for table in found[1:]:
            self.assertEqual(list(table), states)
            for value in table.values():
                self.assertTrue(value is None or (value.__class__ is int and 0 <= value <= 10**6))
        self.assertNotIn(None, found[1].values())
        self.assertTrue(are_plain_tables(company, rule, one, other, kin, most, found[1:]))
        self.assertIs(is_parted_paper(company, rule, one, other, found, kin=kin, most=most), True)

    def check_question(self, question):
        company, rule, one, other, kin = question
        least = least_losses(company, rule, one, other, kin=kin)
        for most in (None, 0, 1, 2, 3, 5, 1000, *(() if least is None else (least, max(least - 1, 0), least + 1))):
            found = find_parted(company, rule, one, other, kin=kin, most=most)
            if least is not None and (most is None or most >= least):
                self.check_lot(question, found, most)
                self.assertGreaterEqual(len(found[1]), least)
            else:
                self.check_tables(question, found, most)
        return least

    def test_questions_by_chance(self):
        told = [self.check_question(question) for question in questions(30, 120)]
        self.assertTrue({None, 0, 1, 2} <= set(told), set(told))

    def test_companies_of_up_to_four(self):
        for question in questions(31, 12, 900, 4):
            self.check_question(question)

    def test_least_losses_against_all_small_lots(self):
        looked = 0
        for company, rule, one, other, kin in questions(32, 150):
            many = 4
            if len(single_trees(company, many)) > 40:
                continue
            least = least_losses(company, rule, one, other, kin=kin)
            found = [len(lot) for lot, _, _ in plain_partings(company, rule, one, other, kin, many)]
            if found:
                looked += 1
                self.assertIsNotNone(least)
                self.assertLessEqual(least, min(found))
            if least is not None and len(find_parted(company, rule, one, other, kin=kin)[1].bundle) <= many:
                self.assertEqual(min(found), least)
        self.assertGreater(looked, 25)

    def test_the_number_of_letters_is_small(self):
        for company, rule, one, other, kin in questions(33, 60):
            found = find_parted(company, rule, one, other, kin=kin)
            if found[0] == "lot":
                self.assertLessEqual(len(found[1].bundle), 40)

    def test_least_break(self):
        for company, rule, _, _, _ in questions(34, 40, 300, 4):
            told = [least_losses(company, rule, one, other, kin=kin) for one in company for other in company for kin in KINS]
            expected = min((least for least in told if least is not None), default=None)
            self.assertEqual(least_break(company, rule), expected)
        self.assertEqual((least_break(PLAIN, NARROW), least_break(PLAIN, WIDE)), (1, 2))

    def test_written_out(self):
        solo = Company(("a",), {("a", "a"): (ALL, True, ALL)})
        for cutter, rule, above, beside in (
            (ALL, WIDE, None, None), (ALL, Rule(ALL), None, 1), (LAST, WIDE, 1, 1), (TWO, WIDE, 2, 2), (FIRST, WIDE, None, None),
            (LAST, Rule(ALL), 1, 1), (Cutter("..+++"), WIDE, 3, 3), (NONE, WIDE, 0, 0), (ALL, Rule(NONE), 0, 0),
            (FIRST, Rule(ALL), 1, 1), (Cutter("+..+"), WIDE, None, None), (ALL, NARROW, 1, 1),
        ):
            company = solo.with_answer("a", "a", (ALL, True, cutter))
            told = [least_losses(company, rule, "a", "a", kin=kin, limit=20000) for kin in KINS]
            self.assertEqual(told, [above, beside], (str(cutter), str(rule)))

    def test_people_who_never_write_and_companies_that_nobody_starts(self):
        lonely = Company(("ann", "bob"), {("bob", "ann"): (ALL, True, LAST)}, starts=("ann",))
        for company in (lonely, lonely.with_starts(())):
            for one, other in (("ann", "bob"), ("bob", "ann"), ("bob", "bob"), ("ann", "ann")):
                for kin in KINS:
                    self.assertIsNone(self.check_question((company, NARROW, one, other, kin)))
            self.assertIsNone(least_break(company, NARROW))
        self.assertEqual(find_parted(lonely.with_starts(()), WIDE, "ann", "bob", kin="above"), ("tables", {}, {}, {}))
        self.assertIs(is_parted_paper(PLAIN.with_starts(()), WIDE, "ann", "bob", ("tables", {}, {}, {}), kin="above"), True)
        self.assertIs(is_parted_paper(PLAIN, WIDE, "ann", "bob", ("tables", {}, {}, {}), kin="above"), False)

    def test_a_talk_begun_by_taking(self):
        company = Company(
            ("ann", "bob"), {("bob", "bob"): (ALL, True, LAST)}, takings={("ann", "bob"): (ALL, True, LAST)}, starts=("ann",),
        )
        self.assertEqual(self.check_question((company, WIDE, "bob", "bob", "above")), 1)
        self.assertIsNone(self.check_question((company, WIDE, "ann", "bob", "above")))
        self.assertIsNone(self.check_question((company, WIDE, "ann", "ann", "beside")))
        found = find_parted(company, WIDE, "bob", "bob", kin="above")
        self.assertEqual(found[1].bundle.talk_of(found[2]), found[1].bundle.talk_of(found[3]))
        self.assertNotEqual(found[1].bundle.talk_of(found[2]), 0)


class False19(unittest.TestCase):
    """[0.19]: what one could believe, and is false."""

    def least(self, kept, road):
        """Losses that part letters of bob and cyd; bob's list is cut by the one, and cut again on the road to cyd."""
        company = Company(
            ("ann", "bob", "cyd"), {("ann", "bob"): (ALL, True, kept), ("bob", "cyd"): (road, True, FIRST)}, starts=("ann",),
        )
        return least_losses(company, Rule(ALL), "bob", "cyd", kin="above")

    def test_keeping_more_marks_can_part_earlier(self):
        self.assertEqual((self.least(NONE, ALL), self.least(ALL, ALL)), (None, 1))

    def test_a_road_that_cuts_less_can_part_earlier(self):
        self.assertEqual((self.least(ALL, NONE), self.least(ALL, ALL)), (None, 1))

    def test_above_and_beside(self):
        solo = Company(("a",), {("a", "a"): (ALL, True, ALL)})
        told = [least_losses(solo, Rule(ALL), "a", "a", kin=kin) for kin in KINS]
        self.assertEqual(told, [None, 1])

    def test_talks_of_single_people_and_of_all(self):
        for company, rule, _, _, _ in questions(37, 300):
            if len(company) > 1 and least_break(company, rule) is not None:
                if all(least_break(company.part((person,)), rule) is None for person in company):
                    return
        self.fail("no such company")


class Judging(unittest.TestCase):
    def judge(self, question, value, most=None):
        company, rule, one, other, kin = question
        return is_parted_paper(company, rule, one, other, value, kin=kin, most=most)

    def test_lots_that_the_program_did_not_make(self):
        chance = Random(38)
        right = 0
        for company, rule, _, _, _ in questions(39, 60):
            lot = some_lot(chance, 6, company)
            for first in range(len(lot.bundle)):
                for second in range(len(lot.bundle)):
                    one, other = lot.bundle[first][0], lot.bundle[second][0]
                    for kin in KINS:
                        expected = is_plain_parting(rule, company, one, other, kin, lot, first, second)
                        right += expected
                        question, value = (company, rule, one, other, kin), ("lot", lot, first, second)
                        self.assertIs(self.judge(question, value), expected)
                        self.assertIs(self.judge(question, value, len(lot)), expected)
                        if len(lot):
                            self.assertIs(self.judge(question, value, len(lot) - 1), False)
        self.assertGreater(right, 50)

    def test_lots_spoilt_in_one_place(self):
        question = (PLAIN, NARROW, "ann", "bob", "above")
        letters = (("ann", None, True), ("bob", 0, False), ("ann", 1, False), ("bob", 2, False), ("ann", None, True))
        lot = Lot(Bundle(PLAIN, *letters), (0, 3, 4))
        self.assertIs(self.judge(question, ("lot", lot, 0, 3)), True)
        self.assertIs(self.judge(question, ("lot", lot, 0, 3), 2), True)
        self.assertIs(self.judge(question, ("lot", lot, 0, 3), 1), False)
        alike = PLAIN.with_copy("ann", Cutter("all"))
        self.assertIs(self.judge(question, ("lot", Lot(Bundle(alike, *letters), (0, 3)), 0, 3)), True)
        other = PLAIN.with_copy("ann", LAST)
        for value in (
            ("lot", lot, 3, 0), ("lot", lot, 0, 0), ("lot", lot, 4, 3), ("lot", lot, 0, 1), ("lot", lot, 2, 3), ("lot", lot, 0, 4),
            ("lot", lot, False, 3), ("lot", lot, 0, 3, 0), ("lot", lot, 0), ["lot", lot, 0, 3], ("lots", lot, 0, 3), ("Lot", lot, 0, 3),
            (None, lot, 0, 3), (lot, lot, 0, 3), ("lot", lot.bundle, 0, 3), ("lot", None, 0, 3), ("lot", (lot,), 0, 3),
            ("lot", lot, "0", 3), ("lot", lot, None, 3), ("lot", lot, 0, 9), ("lot", lot, 0, -1), ("lot", lot, (0,), 3), ("lot", lot, 0, [3]),
            ("tables", lot, 0, 3), ("lot", Lot(Bundle(other, *letters), (0, 3)), 0, 3), ("lot", lot.with_come(1).with_come(2), 0, 3),
            ("lot", lot, {}, {}), (), "lot", lot, ("lot",), ("lot", {}, {}, {}),
        ):
            self.assertIs(self.judge(question, value), False, value)
        for wrong in (
            (PLAIN, NARROW, "ann", "ann", "above"), (PLAIN, NARROW, "bob", "bob", "above"), (PLAIN, NARROW, "ann", "bob", "beside"),
            (PLAIN, Rule(TWO), "ann", "bob", "above"), (other, NARROW, "ann", "bob", "above"),
        ):
            self.assertIs(self.judge(wrong, ("lot", lot, 0, 3)), wrong[1] == Rule(TWO), wrong)

    def test_tables_that_the_program_did_not_make(self):
        chance = Random(40)
        looked = {True: 0, False: 0}
        for question in questions(41, 60, 60):
            company, rule, one, other, kin = question
            least = least_losses(company, rule, one, other, kin=kin)
            if least == 0:
                continue
            most = None if least is None else least - 1
            tables = find_parted(company, rule, one, other, kin=kin, most=most)[1:]
            for _ in range(12):
                told = [dict(table) for table in tables]
                for _ in range(chance.choice((1, 1, 2, 5))):
                    if told[0]:
                        table, state = chance.choice(told), chance.choice(list(told[0]))
                        table[state] = chance.choice((0, 1, 2, 7) if table is told[0] else (0, 1, 2, None))
                expected = are_plain_tables(company, rule, one, other, kin, most, told)
                looked[expected] += 1
                self.assertIs(self.judge(question, ("tables", *told), most), expected)
                back = [{state: table[state] for state in reversed(list(table))} for table in told]
                self.assertIs(self.judge(question, ("tables", *back), most), expected)
        self.assertTrue(min(looked.values()) > 60, looked)

    def test_tables_with_further_states(self):
        right = 0
        turns = [(ALL, True, cutter) for cutter in (LAST, TWO, FIRST, Cutter("..+++"), Cutter("+..+"))]
        told = [(PLAIN.with_answer("ann", "bob", turn), rule, "bob", "bob", kin) for turn in turns for rule in (WIDE, NARROW) for kin in KINS]
        for question in (*told, *questions(42, 40, 120)):
            company, rule, one, other, kin = question
            least = least_losses(company, rule, one, other, kin=kin)
            if least == 0:
                continue
            most = None if least is None else least - 1
            walk = Walk(company, rule)
            so_far, zero, one_table = find_parted(company, rule, one, other, kin=kin, most=most)[1:]
            many = len(so_far)
            further = {(person, own, ((), (), ())) for person in company for own in plain_colours(rule)} - set(so_far)
            while further - set(so_far):
                for state in further:
                    # To come to these costs much, to go on from them nothing: so they show nothing wrong.
                    so_far[state], zero[state], one_table[state] = 10**6, 0, 0
                further = {step for state in so_far for step in walk.steps(state)} - set(so_far)
            expected = are_plain_tables(company, rule, one, other, kin, most, (so_far, zero, one_table))
            self.assertIs(self.judge(question, ("tables", so_far, zero, one_table), most), expected)
            huge = {state: 10**39 if value == 10**6 else value for state, value in so_far.items()}
            self.assertIs(self.judge(question, ("tables", huge, zero, one_table), most), expected)
            right += expected and len(so_far) > many
        self.assertGreater(right, 10)

    def test_tables_spoilt_in_one_place(self):
        question = (PLAIN, WIDE, "ann", "ann", "above")
        found = find_parted(*question[:4], kin="above", most=1)
        self.assertIs(self.judge(question, found, 1), True)
        self.assertIs(self.judge(question, found, 0), True)
        self.assertIs(self.judge(question, found, 2), False)
        self.assertIs(self.judge(question, found, None), False)
        self.assertIs(self.judge(question, ("tables", found[1], found[3], found[2]), 1), False)
        for word in ("table", "Tables", "lot", "sets", None, 0, found):
            self.assertIs(self.judge(question, (word, *found[1:]), 1), False)
        for at in (1, 2, 3):
            for state in found[at]:
                less = {other: value for other, value in found[at].items() if other != state}
                spoilt = [
                    less, {**less, (state[0], bool(state[1]), state[2]): found[at][state]}, {**less, ("eve", *state[1:]): 0},
                    {**less, state: True}, {**less, state: -1}, {**less, state: "1"}, {**less, state: (0,)}, {**less, state: 10**9},
                    {**found[at], 0: 0}, {**found[at], None: 0}, {**found[at], ("ann", 2, ((), (), ())): 0}, {**found[at], "x": None},
                ]
                if at == 1:
                    spoilt += [{**less, state: None}, {**less, state: found[at][state] + 1}]
                elif found[at][state] is not None:
                    spoilt += [{**less, state: None}, {**less, state: found[at][state] + 1}]
                for table in spoilt:
                    value = (*found[:at], table, *found[at + 1:])
                    self.assertIs(self.judge(question, value, 1), False, table)
                rest = [{other: told for other, told in table.items() if other != state} for table in found[1:]]
                self.assertIs(self.judge(question, ("tables", *rest), 1), False)
            for table in (None, (), [], 0, list(found[at].items()), tuple(found[at]), "x", PLAIN):
                self.assertIs(self.judge(question, (*found[:at], table, *found[at + 1:]), 1), False)

    def test_tables_with_other_keys_than_one_another(self):
        question = (PLAIN, WIDE, "ann", "ann", "above")
        found = find_parted(*question[:4], kin="above", most=1)
        new = ("bob", 1, ((), (), ()))
        for at in (1, 2, 3):
            more = {**found[at], new: 0}
            self.assertIs(self.judge(question, (*found[:at], more, *found[at + 1:]), 1), False)
            for state in found[at]:
                less = {other: more[other] for other in more if other != state}
                self.assertIs(self.judge(question, (*found[:at], less, *found[at + 1:]), 1), False)

    def test_values_of_other_kinds(self):
        for question in ((PLAIN, WIDE, "ann", "bob", "above"), (PLAIN, NARROW, "bob", "bob", "beside")):
            for value in several():
                self.assertIs(self.judge(question, value), False)
                for word in ("lot", "tables"):
                    for part in ((word, value, value, value), (word, value, 0, 1), (word, value), (value, word, {}, {})):
                        self.assertIs(self.judge(question, part), False, part)
                        self.assertIs(self.judge(question, part, 0), False, part)

    def test_arguments_stay_as_they_are(self):
        question = (PLAIN, WIDE, "ann", "ann", "above")
        found = find_parted(*question[:4], kin="above", most=1)
        again = find_parted(*question[:4], kin="above", most=1)
        self.assertEqual(found, again)
        self.judge(question, found, 1)
        self.assertEqual(found, again)
        found[1].clear()
        self.assertEqual(find_parted(*question[:4], kin="above", most=1), again)


class Errors(unittest.TestCase):
    def calls(self, company, rule, one, other, kin, most, limit):
        """The calls that take all of these, without most and without limit."""
        return (
            lambda: find_parted(company, rule, one, other, limit=limit, most=most, kin=kin),
            lambda: least_losses(company, rule, one, other, limit=limit, kin=kin),
            lambda: is_parted_paper(company, rule, one, other, 3, most=most, kin=kin),
        )

    def check_kept(self, call, error, name, value):
        with self.assertRaises(error) as caught:
            call()
        self.assertEqual(getattr(caught.exception, name), value)
        self.assertIs(getattr(caught.exception, name).__class__, value.__class__)

    def test_order_of_errors(self):
        for value in (*several(), "eve", "Above"):
            if not isinstance(value, Company):
                for call in (*self.calls(value, 3, 3, 3, 3, -1, -1), lambda: least_break(value, 3, limit=0)):
                    self.assertRaises(InvalidCompany, call)
            if not isinstance(value, Rule):
                for call in (*self.calls(PLAIN, value, 3, 3, 3, -1, -1), lambda: least_break(PLAIN, value, limit=0)):
                    self.assertRaises(InvalidRule, call)
            if value != "ann":
                for call in self.calls(PLAIN, WIDE, value, 3, 3, -1, -1):
                    self.check_kept(call, UnknownName, "name", value)
                for call in self.calls(PLAIN, WIDE, "ann", value, 3, -1, -1):
                    self.check_kept(call, UnknownName, "name", value)
            for call in self.calls(PLAIN, WIDE, "ann", "bob", value, -1, -1):
                self.assertRaises(InvalidOperation, call)

    def test_numbers(self):
        for value in (*several(), -1, 1001, True, False, 20001, 0, 1000):
            whole = isinstance(value, int) and not isinstance(value, bool)
            find, least, judge = self.calls(PLAIN, WIDE, "ann", "bob", "above", value, -1)
            if value is None or (whole and 0 <= value <= 1000):
                self.check_kept(find, InvalidNumber, "value", -1)
                self.assertIs(judge(), False)
            else:
                self.check_kept(find, InvalidNumber, "value", value)
                self.check_kept(judge, InvalidNumber, "value", value)
            if not (whole and 1 <= value <= 20000):
                for call in (*self.calls(PLAIN, WIDE, "ann", "bob", "above", 1, value)[:2], lambda: least_break(PLAIN, WIDE, limit=value)):
                    self.check_kept(call, InvalidNumber, "value", value)

    def test_limits(self):
        many = len(Walk(PLAIN, NARROW).states())
        for limit in (1, 2, many - 1, many, many + 1, 20000):
            find, least, _ = self.calls(PLAIN, NARROW, "ann", "bob", "above", None, limit)
            for call in (find, least, lambda: least_break(PLAIN, NARROW, limit=limit)):
                if limit < many:
                    self.check_kept(call, TooMany, "limit", limit)
                else:
                    call()
        people = ("ann", "bob", "cyd", "dan")
        large = Company(people, {(one, other): (ALL, True, ALL) for one in people for other in people})
        for call in self.calls(large, Rule(NONE), "ann", "ann", "above", 0, 2000)[:2]:
            self.check_kept(call, TooMany, "limit", 2000)
        self.check_kept(lambda: find_parted(large, Rule(NONE), "ann", "ann", kin="above"), TooMany, "limit", 2000)
        self.check_kept(lambda: least_losses(large, Rule(NONE), "ann", "ann", kin="above"), TooMany, "limit", 2000)
        self.check_kept(lambda: least_break(large, Rule(NONE)), TooMany, "limit", 2000)

    def test_functions_stand_in_the_module_itself(self):
        for part in (find_parted, is_parted_paper, least_losses, least_break):
            self.assertEqual(part.__module__, "namedabove.walk.parted")
        self.assertRaises(TypeError, find_parted, PLAIN, WIDE, "ann", "bob", "above")
        self.assertRaises(TypeError, find_parted, PLAIN, WIDE, "ann", "bob")


if __name__ == "__main__":
    unittest.main()
