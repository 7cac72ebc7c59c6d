"""[0.1] to [0.6], [0.16] to [0.19] and [1.2] over the whole program: what all modules together promise."""

import unittest
from random import Random

from namedabove.base.companies import Company
from namedabove.base.cutters import Cutter
from namedabove.errors import TooMany
from namedabove.live.desk import Desk
from namedabove.live.inbox import Inbox, arrivals
from namedabove.read.lots import Lot, chain, colours, groups, neighbours, row_of_losses, shown, together
from namedabove.read.rules import Rule
from namedabove.talk.bundles import Bundle
from namedabove.text.formats import bundle_text, company_text, inbox_text, lot_text, read_company, read_lot, rule_text
from namedabove.walk.alike import are_alike, binds_more, find_unlike, is_alike_paper
from namedabove.walk.helpers import help_table, helped, helpers, helps
from namedabove.walk.mixed import find_mixed, is_mixed_paper, is_mixing, mixed_pairs
from namedabove.walk.parted import find_parted, is_parted_paper, least_break, least_losses
from namedabove.walk.places import are_shown_alike, find_missed, find_wrong, is_missed_paper, is_wrong_paper, places_in
from namedabove.walk.rows import find_rows, is_rows_paper, least_row
from namedabove.walk.states import Walk
from tests.plain_lots import plain_group, some_lot
from tests.plain_talks import plain_talk, plain_way, some_rule
from tests.test_parted import KINS, questions

ALL, LAST, TWO, FIRST, NONE = Cutter("all"), Cutter("..+"), Cutter("..++"), Cutter("+.."), Cutter("..")
NAMES = {"ann": "zoe", "bob": "yan", "cyd": "xu", "dan": "wim"}


def told_by(call):
    """What a call returns, or the limit that is too low."""
    try:
        return call()
    except TooMany as error:
        return ("too many", error.limit)


def calls_for(company, rule, other, one, two, lot):
    """Calls of all stages; those for the company come first."""
    first = lot.came[0] if lot.came else None
    calls = [
        lambda: company.writers(), lambda: Walk(company, rule).states(limit=20000), lambda: least_break(company, rule, limit=300),
        lambda: find_mixed(company, rule), lambda: find_unlike(company, rule, other), lambda: find_wrong(company, rule),
        lambda: find_missed(company, rule), lambda: binds_more(company, rule, other), lambda: are_shown_alike(company, rule, other),
        lambda: is_mixing(company, rule), lambda: are_alike(company, rule, other), lambda: helped(company, company.people[:1]),
        lambda: groups(rule, lot), lambda: shown(rule, lot), lambda: places_in(rule, lot), lambda: mixed_pairs(rule, lot),
        lambda: lot.bundle.talks(), lambda: arrivals(lot), lambda: Inbox.of(rule, arrivals(lot)).groups,
    ]
    for kin in KINS:
        calls += [
            lambda kin=kin: find_parted(company, rule, one, two, kin=kin, most=1, limit=300),
            lambda kin=kin: least_losses(company, rule, one, two, kin=kin, limit=300),
            lambda kin=kin: find_rows(company, rule, one, two, kin=kin, most=1, limit=300),
            lambda kin=kin: least_row(company, rule, one, two, kin=kin, limit=300),
            lambda kin=kin: helpers(company, rule, one, two, kin=kin, most=0, limit=300),
            lambda kin=kin: help_table(company, rule, kin=kin, most=1, limit=300),
        ]
    if first is not None:
        calls += [
            lambda: chain(rule, lot, first, lot.came[-1]), lambda: colours(rule, lot, first, lot.came[-1]),
            lambda: neighbours(rule, lot, first), lambda: together(rule, lot, first, lot.came[-1]),
            lambda: row_of_losses(lot, first),
        ]
    return calls


def settings(seed, many):
    chance = Random(seed)
    for company, rule, one, two, _ in questions(seed, many, 300, 3):
        yield company, rule, some_rule(chance), one, two, some_lot(chance, 9, company)


def other_parts(cutter):
    return Cutter(*("all", *cutter.parts)[:4]) if len(cutter) < 4 else cutter


def same_company(company):
    """An equal company, whose cutters have other parts."""
    def turns(told):
        return {pair: (other_parts(road), adds, other_parts(cutter)) for pair, (road, adds, cutter) in reversed(told.items())}
    copies = {person: other_parts(company.copy(person)) for person in company}
    return Company(company.people, turns(company.answers), takings=turns(company.takings), starts=company.starts, copies=copies)


class Equal(unittest.TestCase):
    def test_equal_calls_in_whatever_order(self):
        chance = Random(170)
        for setting in settings(171, 25):
            calls = calls_for(*setting)
            told = [told_by(call) for call in calls]
            order = list(range(len(calls)))
            chance.shuffle(order)
            for at in order:
                self.assertEqual(told_by(calls[at]), told[at])

    def test_equal_companies_and_rules(self):
        for company, rule, other, one, two, lot in settings(172, 25):
            same = same_company(company)
            self.assertEqual(same, company)
            rules = [Rule(other_parts(told.cutter), sees_lost=told.sees_lost) for told in (rule, other)]
            again = Lot(Bundle(same, *lot.bundle.letters), lot.came)
            here = calls_for(company, rule, other, one, two, lot)
            there = calls_for(same, *rules, one, two, again)
            for call, equal in zip(here, there):
                self.assertEqual(told_by(call), told_by(equal))

    def test_what_is_returned_gives_no_access(self):
        for setting in settings(173, 15):
            for call in calls_for(*setting):
                told = told_by(call)
                parts = [told, *told] if isinstance(told, tuple) else [told]
                before = [dict(part) for part in parts if isinstance(part, dict)]
                for part in parts:
                    if isinstance(part, dict):
                        part.clear()
                again = told_by(call)
                parts = [again, *again] if isinstance(again, tuple) else [again]
                self.assertEqual([part for part in parts if isinstance(part, dict)], before)

    def test_what_is_passed_is_copied_and_not_changed(self):
        answers, copies = {("ann", "bob"): (ALL, True, TWO)}, {"ann": LAST}
        company = Company(("ann", "bob"), answers, takings=answers, copies=copies)
        same = Company(("ann", "bob"), dict(answers), takings=dict(answers), copies=dict(copies))
        for told in (answers, copies):
            told.clear()
        self.assertEqual(company, same)
        rule = Rule(LAST)
        found = find_parted(company, rule, "ann", "bob", kin="above", most=0)
        tables = [dict(table) for table in found[1:]]
        self.assertIs(is_parted_paper(company, rule, "ann", "bob", found, kin="above", most=0), True)
        self.assertEqual(list(found[1:]), tables)


class Names(unittest.TestCase):
    def renamed(self, value, names):
        """The value with other names, as far as it is no lot."""
        if isinstance(value, str):
            return names.get(value, value)
        if isinstance(value, tuple):
            told = tuple(self.renamed(part, names) for part in value)
            return told
        if isinstance(value, dict):
            return {self.renamed(key, names): self.renamed(value[key], names) for key in value}
        return value

    def test_other_names_change_nothing_but_the_names(self):
        for company, rule, other, one, two, lot in settings(174, 25):
            names = {person: NAMES[person] for person in company}
            renamed = company.renamed(names)
            letters = tuple((names[writer], upon, begins) for writer, upon, begins in lot.bundle.letters)
            again = Lot(Bundle(renamed, *letters), lot.came)
            here = calls_for(company, rule, other, one, two, lot)
            there = calls_for(renamed, rule, other, names[one], names[two], again)
            for call, equal in zip(here, there):
                told, found = told_by(call), told_by(equal)
                if isinstance(told, tuple) and told and told[0] == "lot":
                    self.assertEqual(found[0], "lot")
                elif not isinstance(told, Company):
                    told = self.renamed(told, names)
                    self.assertEqual(self.ordered(told), self.ordered(found))

    def ordered(self, value):
        """The value with its tuples of tuples in order, for other names stand in another order."""
        if isinstance(value, tuple):
            return sorted([self.ordered(part) for part in value], key=repr)
        return value


class MainPromise(unittest.TestCase):
    def test_exactly_one_of_both_exists(self):
        for company, rule, other, one, two, _ in settings(175, 30):
            for kin in KINS:
                for most in (0, 1, 2, None):
                    found = find_parted(company, rule, one, two, kin=kin, most=most)
                    self.assertIs(is_parted_paper(company, rule, one, two, found, kin=kin, most=most), True)
                    if most is not None:
                        found = find_rows(company, rule, one, two, kin=kin, most=most)
                        self.assertIs(is_rows_paper(company, rule, one, two, found, kin=kin, most=most), True)
            self.assertIs(is_mixed_paper(company, rule, find_mixed(company, rule)), True)
            self.assertIs(is_alike_paper(company, rule, other, find_unlike(company, rule, other)), True)
            self.assertIs(is_wrong_paper(company, rule, find_wrong(company, rule)), True)
            self.assertIs(is_missed_paper(company, rule, find_missed(company, rule)), True)

    def test_a_rule_that_puts_together_just_the_letters_of_one_talk(self):
        # [0.17]: for lots with as many losses as tables tell, groups are the parts of talks that came.
        chance = Random(176)
        looked = 0
        for company, rule, _, _, _, _ in settings(177, 150):
            if is_mixing(company, rule):
                continue
            most = least_break(company, rule, limit=20000)
            for _ in range(10):
                lot = some_lot(chance, 7, company)
                letters = lot.bundle.letters
                talks = {}
                for mark in lot.came:
                    talks.setdefault(plain_talk(letters, mark), []).append(mark)
                told = tuple(sorted(map(tuple, talks.values())))
                if most is None or len(lot) < most:
                    looked += 1
                    self.assertEqual(groups(rule, lot), told)
        self.assertGreater(looked, 150)

    def test_true_sentences(self):
        # [0.18]: who binds more, who sees lost marks, and who gets more, parts less.
        chance = Random(178)
        for company, rule, other, _, _, lot in settings(179, 60):
            here = {mark: frozenset(plain_group(rule, lot, mark)) for mark in lot.came}
            seeing = {mark: frozenset(plain_group(rule.seeing(), lot, mark)) for mark in lot.came}
            self.assertTrue(all(here[mark] <= seeing[mark] for mark in here))
            if binds_more(company, rule, other):
                self.assertTrue(all(here[mark] <= plain_group(other, lot, mark) for mark in here))
            if lot.came:
                lost = chance.choice(lot.came)
                fewer = lot.with_lost(lost)
                self.assertTrue(all(plain_group(rule, fewer, mark) <= here[mark] for mark in fewer.came))

    def test_sentences_that_are_not_true(self):
        # [0.19]: each of these companies contradicts one of them.
        solo = Company(("a",), {("a", "a"): (ALL, True, FIRST)})
        keeps = solo.with_answer("a", "a", (ALL, True, ALL))
        last = Rule(Cutter("..+++"), sees_lost=True)
        # Who keeps more marks lets a talk fall apart.
        self.assertEqual([least_losses(told, last, "a", "a", kin="beside") for told in (solo, keeps)], [None, 3])
        # A road that cuts more holds it together, too.
        road = solo.with_answer("a", "a", (FIRST, True, ALL))
        self.assertIsNone(least_losses(road, last, "a", "a", kin="beside"))
        # More people who keep all part more.
        self.assertEqual([helps(solo, last, "a", "a", people, kin="beside") for people in ((), ("a",))], [True, False])
        # Nobody is parted in the talks of single people, but in those of both.
        pair = Company(("a", "b"), {("a", "b"): (ALL, True, ALL), ("b", "a"): (ALL, True, ALL)})
        rule = Rule(NONE)
        self.assertEqual([least_break(pair.part((person,)), rule) for person in pair], [None, None])
        self.assertEqual(least_break(pair, rule, limit=20000), 0)
        # Nobody is parted one above the other, but side by side.
        narrow = Rule(ALL)
        self.assertIsNone(least_losses(keeps, narrow, "a", "a", kin="above"))
        self.assertEqual(least_losses(keeps, narrow, "a", "a", kin="beside"), 1)
        # No place is wrong, but talks fall apart; and places are wrong where they do not.
        self.assertEqual((find_wrong(keeps, Rule(LAST))[0], least_break(keeps, Rule(LAST))), ("never", 1))
        first = Rule(FIRST, sees_lost=True)
        self.assertEqual((find_wrong(keeps, first)[0], least_break(keeps, first)), ("lot", None))


class Together(unittest.TestCase):
    def test_texts_of_what_stages_return(self):
        for company, rule, other, one, two, lot in settings(180, 30):
            self.assertEqual(read_company(company_text(company)), company)
            for found in (
                find_parted(company, rule, one, two, kin="above"), find_mixed(company, rule), find_unlike(company, rule, other),
                find_wrong(company, rule), find_missed(company, rule),
            ):
                if found[0] == "lot":
                    self.assertEqual(read_lot(company, lot_text(found[1])), found[1])
                    self.assertTrue(bundle_text(found[1].bundle))
            self.assertTrue(inbox_text(Inbox.of(rule, arrivals(lot))).startswith(rule_text(rule)))

    def test_desks_tell_what_stages_tell(self):
        for company, rule, other, one, two, lot in settings(181, 30):
            desk = Desk(company, rule)
            for name, pledge, found in (
                ("a", ("whole", one, two, "above", 1), find_parted(company, rule, one, two, kin="above", most=1)),
                ("b", ("rows", one, two, "beside", 1), find_rows(company, rule, one, two, kin="beside", most=1)),
                ("c", ("pure",), find_mixed(company, rule)), ("d", ("placed",), find_wrong(company, rule)),
                ("e", ("like", other), find_unlike(company, rule, other)),
            ):
                if found[0] != "lot":
                    desk.pledge(name, pledge)
                    self.assertEqual(desk.paper(name), found)
            inbox = desk.inbox()
            inbox.receive(*arrivals(lot))
            self.assertEqual(inbox.groups, groups(rule, lot))

    def test_ways_in_lots_of_stages(self):
        for company, rule, _, one, two, _ in settings(182, 30):
            found = find_parted(company, rule, one, two, kin="above")
            if found[0] == "lot":
                _, lot, first, second = found
                self.assertIn(first, plain_way(lot.bundle.letters, second))
                self.assertNotIn(second, plain_group(rule, lot, first))


if __name__ == "__main__":
    unittest.main()
