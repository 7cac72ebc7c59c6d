"""[0.18], [12.1] to [12.4] and stage 12: right places, what shows that none is wrong or missed, and errors."""

import unittest
from random import Random

from namedabove.base.companies import Company
from namedabove.base.cutters import Cutter
from namedabove.errors import InvalidCompany, InvalidLot, InvalidRule
from namedabove.read.lots import Lot, shown
from namedabove.read.rules import Rule
from namedabove.talk.bundles import Bundle
from namedabove.walk.places import are_shown_alike, find_missed, find_wrong, is_missed_paper, is_wrong_paper, places_in
from tests.plain_lots import some_lot
from tests.plain_talks import plain_bound, some_company, some_rule
from tests.plain_ways import bundles_of, chains, gap_state_of, has_plain_place, plain_gap_states, plain_places
from tests.plain_walks import plain_short
from tests.test_parted import subsets
from tests.test_two_rules import questions
from tests.values import several

ALL, LAST, TWO, NONE, FIRST = Cutter("all"), Cutter("..+"), Cutter("..++"), Cutter(".."), Cutter("+..")
PLAIN = Company(("ann", "bob"), {("ann", "bob"): (ALL, True, TWO), ("bob", "ann"): (ALL, True, TWO)}, starts=("ann",))
TAKES = PLAIN.with_taking("bob", "ann", (ALL, True, LAST))
WIDE, NARROW = Rule(ALL, sees_lost=True), Rule(LAST)
FIND = {"wrong": find_wrong, "missed": find_missed}
JUDGE = {"wrong": is_wrong_paper, "missed": is_missed_paper}


def pairs_by_chance(seed, many, most_people=3):
    chance = Random(seed)
    for _ in range(many):
        yield some_company(chance, chance.randint(1, most_people), 0.5, chance.choice((0, 0.3))), some_rule(chance)


def all_gap_states(people):
    """Gap states of these people that are possible by their form."""
    rows = [()]
    for _ in range(7):
        rows += [(*row, bit) for row in rows for bit in (0, 1, 2) if bit < 2 or set(row) <= {2}]
        rows = list(dict.fromkeys(rows))
    shorts = sorted({plain_short(row) for row in rows})
    return [(person, lead, short) for person in people for lead in (0, 1) for short in shorts]


def is_plain_set(company, rule, states, word):
    if plain_gap_states(company, states) != set(states):
        return False
    return not any(has_plain_place(company, rule, state, word) for state in states)


class Finding(unittest.TestCase):
    def check(self, company, rule, word):
        """Check what is told, and return the number of letters, or None."""
        found = FIND[word](company, rule)
        self.assertIs(found.__class__, tuple)
        self.assertIs(JUDGE[word](company, rule, found), True)
        if found[0] == "never":
            self.assertEqual(found[1:], (tuple(sorted(plain_gap_states(company))),))
            self.assertTrue(is_plain_set(company, rule, found[1], word))
            return None
        kind, lot, mark = found
        self.assertEqual((kind, lot.bundle.company), ("lot", company))
        self.assertEqual(plain_places(rule, lot)[mark], word)
        return len(lot.bundle)

    def test_companies_by_chance(self):
        for word in FIND:
            sizes = []
            for company, rule in pairs_by_chance(110, 120):
                many = self.check(company, rule, word)
                sizes.append(many)
                rows = chains(company, 4 if many is None else min(many - 1, 5))
                for letters in rows if len(rows) < 100 else rows[::9]:
                    bundle = Bundle(company, *letters)
                    for came in subsets(range(len(letters))):
                        self.assertNotIn(word, plain_places(rule, Lot(bundle, came)).values())
            self.assertTrue({None, 2, 3, 4} <= set(sizes), (word, sizes))

    def test_all_bundles_with_fewer_letters(self):
        for word in FIND:
            for company, rule in pairs_by_chance(111, 40, 2):
                many = self.check(company, rule, word)
                for fewer in range(1, 4 if many is None else min(many, 4)):
                    rows = bundles_of(company, fewer)
                    for letters in rows if len(rows) < 300 else rows[::7]:
                        bundle = Bundle(company, *letters)
                        for came in subsets(range(fewer)):
                            self.assertNotIn(word, plain_places(rule, Lot(bundle, came)).values())

    def test_gap_states_of_ways(self):
        looked = 0
        for company, _ in pairs_by_chance(112, 60, 2):
            told = find_wrong(company, Rule(NONE))[1]
            rows = chains(company, 9 if len(chains(company, 4)) < 25 else 4)
            states = {gap_state_of(company, letters, len(letters) - 1) for letters in rows}
            self.assertTrue(states <= set(told))
            if max(map(len, rows), default=0) == 9:
                looked += 1
                self.assertEqual(states, set(told))
        self.assertGreater(looked, 15)

    def test_long_lists(self):
        solo = Company(("a",), {("a", "a"): (ALL, True, ALL)})
        self.assertEqual(self.check(solo, Rule(Cutter("++..+++")), "wrong"), 7)
        self.assertEqual(self.check(solo, Rule(Cutter("++..+++")), "missed"), 7)
        self.assertEqual(self.check(solo, Rule(ALL), "wrong"), None)
        self.assertEqual(self.check(solo, Rule(ALL), "missed"), None)
        hides = solo.with_answer("a", "a", (ALL, False, ALL))
        self.assertEqual(self.check(hides, Rule(ALL), "missed"), 2)
        self.assertEqual(self.check(hides, Rule(ALL), "wrong"), None)
        taken = solo.with_taking("a", "a", (ALL, True, NONE))
        self.assertEqual(self.check(taken, Rule(ALL), "missed"), None)
        both = solo.with_taking("a", "a", (ALL, True, ALL))
        self.assertEqual((self.check(both, Rule(ALL), "missed"), self.check(both, Rule(ALL), "wrong")), (None, 2))
        self.assertEqual(self.check(both, Rule(LAST), "missed"), 3)

    def test_no_wrong_place_does_not_keep_talks_together(self):
        # [0.19]: by the last mark alone nothing is shown wrong, and nearly everything is missed.
        self.assertEqual((self.check(PLAIN, NARROW, "wrong"), self.check(PLAIN, NARROW, "missed")), (None, 3))
        self.assertEqual((self.check(PLAIN, WIDE, "wrong"), self.check(PLAIN, WIDE, "missed")), (None, 4))
        self.assertEqual(self.check(PLAIN, Rule(FIRST), "wrong"), 3)

    def test_companies_that_nobody_starts_people_who_never_write_and_rules_that_bind_nothing(self):
        for word, find in FIND.items():
            self.assertEqual(find(TAKES.with_starts(()), WIDE), ("never", ()))
            lonely = Company(("ann", "bob"), {("bob", "ann"): (ALL, True, ALL)}, starts=("ann",))
            self.assertEqual(find(lonely, NARROW), ("never", (("ann", 0, ((), (), ())),)))
        for company, _ in pairs_by_chance(113, 20):
            self.assertIsNone(self.check(company, Rule(NONE), "wrong"))
            missed = self.check(company, Rule(NONE), "missed")
            self.assertEqual(missed, 2 if any(one in company.starts for one, _ in company.answers) else missed)

    def test_more_letters_that_came_make_places_wrong(self):
        # [0.19]: a place that is right can be wrong when a nearer letter comes.
        bundle = Bundle(PLAIN, ("ann", None, True), ("bob", 0, False), ("ann", 1, False))
        self.assertEqual(places_in(Rule(FIRST), Lot(bundle, (0, 2))), {0: "right", 2: "right"})
        self.assertEqual(places_in(Rule(FIRST), Lot(bundle, (0, 1, 2))), {0: "right", 1: "right", 2: "wrong"})

    def test_other_names_change_nothing_but_the_names(self):
        names = {"ann": "zoe", "bob": "yan", "cyd": "xu", "dan": "wim"}
        for company, rule in pairs_by_chance(114, 30, 4):
            told = {person: names[person] for person in company}
            for find in FIND.values():
                here, there = find(company, rule), find(company.renamed(told), rule)
                self.assertEqual(here[0], there[0])
                if here[0] == "lot":
                    self.assertEqual(len(here[1].bundle), len(there[1].bundle))
                else:
                    self.assertEqual({(told[person], *rest) for person, *rest in here[1]}, set(there[1]))


class Reading(unittest.TestCase):
    def test_lots_by_chance(self):
        chance = Random(115)
        told = []
        for _ in range(200):
            company, rule = some_company(chance, None, 0.6, chance.choice((0, 0.4))), some_rule(chance)
            lot = some_lot(chance, None, company)
            places = places_in(rule, lot)
            self.assertEqual((places, list(places)), (plain_places(rule, lot), list(lot.came)))
            told += places.values()
        for word in ("right", "wrong", "missed"):
            self.assertGreater(told.count(word), 50)

    def test_shown_alike_against_ways(self):
        results = []
        for company, one, other in questions(116, 120, 2):
            rows = chains(company, 9 if len(chains(company, 4)) < 20 else 5)
            told = are_shown_alike(company, one, other)
            results.append((told, one.sees_lost, other.sees_lost))
            same = all(
                plain_bound(one, company, row, len(row) - 1) == plain_bound(other, company, row, len(row) - 1) for row in rows
            )
            if told or max(map(len, rows), default=0) == 9:
                self.assertIs(told, same)
            if told:
                for row in rows[:60]:
                    lot = Lot(Bundle(company, *row), tuple(range(0, len(row), 2)))
                    self.assertEqual(shown(one, lot), shown(other, lot))
        self.assertEqual(len(set(results)), 8)

    def test_shown_alike_written_out(self):
        for one, other, expected in (
            (WIDE, Rule(TWO), True), (NARROW, NARROW.seeing(), True), (NARROW, WIDE, False), (Rule(Cutter("++..+++")), WIDE, True),
        ):
            self.assertIs(are_shown_alike(PLAIN, one, other), expected)
            self.assertIs(are_shown_alike(PLAIN, other, one), expected)
        solo = Company(("a",), {("a", "a"): (ALL, True, ALL)})
        self.assertIs(are_shown_alike(solo, Rule(Cutter("++..+++")), WIDE), False)
        self.assertIs(are_shown_alike(solo.with_starts(()), Rule(Cutter("++..+++")), WIDE), True)


class Judging(unittest.TestCase):
    def test_sets_that_lack_one_or_have_more(self):
        accepted = refused = 0
        for word in FIND:
            for company, rule in pairs_by_chance(120, 40, 2):
                chance = Random(f"{company} {rule}")
                least = plain_gap_states(company)
                if len(least) > 150:
                    continue
                row = sorted(least)
                for at in range(0, len(row), 2):
                    self.assertIs(JUDGE[word](company, rule, ("never", tuple(row[:at] + row[at + 1:]))), False)
                every = all_gap_states(company.people)
                for _ in range(4):
                    more = chance.sample(every, 1)
                    for states in (plain_gap_states(company, more), least | set(more)):
                        expected = is_plain_set(company, rule, states, word)
                        accepted += expected
                        refused += not expected
                        self.assertIs(JUDGE[word](company, rule, ("never", tuple(sorted(states)))), expected)
        self.assertGreater(accepted, 15)
        self.assertGreater(refused, 100)

    def test_members_that_cannot_be(self):
        company = Company(("ann", "bob"), {}, takings={("ann", "ann"): (ALL, True, NONE)})
        first = tuple(("ann", lead, ((), (), ())) for lead in (0, 1))
        states = (*first, ("bob", 0, ((), (), ())))
        for word, judge in JUDGE.items():
            rule = Rule(NONE)
            found = FIND[word](company, rule)
            self.assertEqual(found[0], "never")
            self.assertIs(judge(company, rule, ("never", states)), word == "wrong")
            for good in (
                ((2, 2), (2,), (2, 2, 0)), ((2, 2), (0, 1, 2), (0, 0, 0)), ((2, 0), (0,), (1, 0, 0)), ((2, 2, 0, 1), (), ()),
                ((2, 2), (0, 1), (0, 0, 0)), ((2, 2), (2,), (2, 2, 2)), ((2, 2), (2,), (0, 1, 0)), ((1, 1), (1,), (1, 1, 1)),
            ):
                paper = ("never", tuple(sorted([*found[1], ("bob", 0, good)])))
                self.assertIs(is_wrong_paper(company, rule, paper), True, good)
                expected = not has_plain_place(company, rule, ("bob", 0, good), "missed")
                self.assertIs(is_missed_paper(company, rule, paper), expected, good)
            for wrong in (
                ((0, 2), (), ()), ((2, 0), (2,), (0, 0, 0)), ((2, 2), (0, 2), (2, 0, 0)), ((2, 2), (0,), (2, 0, 0)),
                ((0, 0), (0,), (2, 0, 0)), ((2, 2), (2,), (0, 2, 0)), ((2, 2), (2, 0), (0, 0, 0)), ((2, 2), (2, 2), (0, 0, 0)),
                ((2, 2), (), (0, 0, 0)), ((2, 2), (2,), (0, 0)), ((2, 2, 0), (0,), (0, 0, 0)), ((0, 0), (0,), ()), ((3,), (), ()),
                ((-1,), (), ()), ((0, 0, 0, 0, 0, 0), (), ()), ((), (), (0, 0, 0)), ((0, 0), (3,), (0, 0, 0)), ((True,), (), ()),
                ([0], (), ()), ((0,), ()), ((0,), (), (), ()), (), None, 0, ((None,), (), ()), [(0,), (), ()], ((0,), [], ()),
            ):
                paper = ("never", (*found[1], ("bob", 1, wrong)))
                self.assertIs(judge(company, rule, paper), False, wrong)
            for wrong in (
                ("cyd", 0, ((), (), ())), ("bob", 2, ((), (), ())), ("bob", -1, ((), (), ())), ("bob", True, ((), (), ())),
                ("bob", None, ((), (), ())), (None, 0, ((), (), ())), ("bob", 0), ("bob", 0, ((), (), ()), 0), ["bob", 1, ((), (), ())],
            ):
                self.assertIs(judge(company, rule, ("never", (*found[1], wrong))), False, wrong)

    def test_order_and_kind(self):
        states = find_wrong(PLAIN, NARROW)[1]
        for value in (
            ("never", states[::-1]), ("never", (*states, states[-1])), ("never", list(states)), ("never",), ("never", states, 0),
            ["never", states], ("lot", states), ("lot", states, 0), states, (), None, ("alike", states), ("never", dict.fromkeys(states)),
        ):
            self.assertIs(is_wrong_paper(PLAIN, NARROW, value), False, value)
        self.assertIs(is_wrong_paper(PLAIN, NARROW, ("never", states)), True)
        self.assertIs(is_missed_paper(PLAIN, NARROW, ("never", states)), False)
        self.assertIs(is_wrong_paper(PLAIN, Rule(FIRST), ("never", states)), False)

    def test_lots(self):
        accepted = 0
        for company, rule in pairs_by_chance(121, 80):
            lot = some_lot(Random(f"{company} {rule}"), 8, company)
            places = plain_places(rule, lot)
            for mark in range(-1, len(lot.bundle) + 1):
                for word in FIND:
                    expected = places.get(mark) == word
                    accepted += expected
                    self.assertIs(JUDGE[word](company, rule, ("lot", lot, mark)), expected)
        self.assertGreater(accepted, 60)

    def test_lots_that_are_changed(self):
        word, lot, mark = find_wrong(PLAIN, Rule(FIRST))
        equal = Lot(Bundle(PLAIN.with_starts(("ann",)), *lot.bundle.letters), lot.came)
        for value, expected in (
            ((word, equal, mark), True), ((word, lot, mark, mark), False), ((word, lot), False), ((word, lot.bundle, mark), False),
            ((word, lot.with_lost(mark), mark), False), ([word, lot, mark], False), (("never", lot, mark), False),
            ((word, Lot(lot.bundle + ("bob", 0, False), lot.came), mark), True), ((word, lot, None), False),
        ):
            self.assertIs(is_wrong_paper(PLAIN, Rule(FIRST), value), expected, value)
        self.assertIs(is_wrong_paper(PLAIN.with_copy("bob", TWO), Rule(FIRST), (word, lot, mark)), False)
        # The letter at 1 came, too, and a value that is equal to 1 is no mark for that.
        solo = Company(("a",), {("a", "a"): (ALL, False, ALL)})
        found = find_missed(solo, WIDE)
        self.assertEqual(found[2], 1)
        self.assertIs(is_missed_paper(solo, WIDE, (*found[:2], True)), False)

    def test_values_of_all_kinds(self):
        for value in several():
            for word, judge in JUDGE.items():
                self.assertIs(judge(TAKES, NARROW, value), False)
                for paper in ((value,), ("never", value), ("never", (value,)), (value, ()), ("lot", value, 0), (value, value, value)):
                    if paper != ("never", ()):
                        self.assertIs(judge(TAKES, NARROW, paper), False, paper)


class Errors(unittest.TestCase):
    def test_errors_in_their_order(self):
        for value in several():
            for find, judge in ((find_wrong, is_wrong_paper), (find_missed, is_missed_paper)):
                if not isinstance(value, Company):
                    self.assertRaises(InvalidCompany, find, value, 3)
                    self.assertRaises(InvalidCompany, judge, value, 3, 3)
                if not isinstance(value, Rule):
                    self.assertRaises(InvalidRule, find, PLAIN, value)
                    self.assertRaises(InvalidRule, judge, PLAIN, value, 3)
            if not isinstance(value, Company):
                self.assertRaises(InvalidCompany, are_shown_alike, value, 3, 3)
            if not isinstance(value, Rule):
                self.assertRaises(InvalidRule, are_shown_alike, PLAIN, value, 3)
                self.assertRaises(InvalidRule, are_shown_alike, PLAIN, value, WIDE)
                self.assertRaises(InvalidRule, are_shown_alike, PLAIN, WIDE, value)
                self.assertRaises(InvalidRule, places_in, value, 3)
            if not isinstance(value, Lot):
                self.assertRaises(InvalidLot, places_in, WIDE, value)

    def test_functions_stand_in_the_module_itself(self):
        for part in (find_wrong, find_missed, is_wrong_paper, is_missed_paper, are_shown_alike, places_in):
            self.assertEqual(part.__module__, "namedabove.walk.places")


if __name__ == "__main__":
    unittest.main()
