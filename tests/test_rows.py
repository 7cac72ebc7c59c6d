"""[9.1], [9.2] and stage 9: partings by rows of losses, the sets that show that there is none, and their errors."""

import unittest
from random import Random

from namedabove.base.companies import Company
from namedabove.base.cutters import Cutter
from namedabove.errors import InvalidCompany, InvalidNumber, InvalidOperation, InvalidRule, TooMany, UnknownName
from namedabove.read.lots import Lot, row_of_losses
from namedabove.read.rules import Rule
from namedabove.talk.bundles import Bundle
from namedabove.walk.heads import Heads
from namedabove.walk.parted import least_losses
from namedabove.walk.rows import find_rows, is_rows_paper, least_row
from namedabove.walk.states import Walk
from tests.plain_lots import is_plain_parting, plain_row_of_losses, some_lot
from tests.plain_walks import are_plain_sets, plain_begins, plain_runs, plain_steps
from tests.test_parted import KINS, plain_partings, questions, single_trees
from tests.values import several

ALL, LAST, TWO, NONE = Cutter("all"), Cutter("..+"), Cutter("..++"), Cutter("..")
PLAIN = Company(("ann", "bob"), {("ann", "bob"): (ALL, True, TWO), ("bob", "ann"): (ALL, True, TWO)}, starts=("ann",))
WIDE, NARROW = Rule(ALL, sees_lost=True), Rule(LAST)
EMPTY = ((), (), ())


def plain_all_runs(company, rule, most):
    found = new = set(plain_runs(company, rule, plain_begins(company, rule), 0, most))
    while new:
        told = [plain_runs(company, rule, plain_steps(company, rule, state), row, most) for state, row in new]
        new = {run for runs in told for run in runs} - found
        found = found | new
    return sorted(found)


def greatest_row(lot, first, second):
    return max(plain_row_of_losses(lot, first), plain_row_of_losses(lot, second))


class Finding(unittest.TestCase):
    def check_lot(self, question, found, most):
        company, rule, one, other, kin = question
        word, lot, first, second = found
        self.assertEqual((word, found.__class__), ("lot", tuple))
        self.assertTrue(is_plain_parting(rule, company, one, other, kin, lot, first, second))
        self.assertLessEqual(greatest_row(lot, first, second), most)
        self.assertIs(is_rows_paper(company, rule, one, other, found, kin=kin, most=most), True)

    def check_sets(self, question, found, most):
        company, rule, one, other, kin = question
        self.assertEqual((found[0], len(found), found.__class__), ("sets", 4, tuple))
        self.assertEqual(found[1], tuple(plain_all_runs(company, rule, most)))
        for part in found[1:]:
            self.assertEqual((part.__class__, list(part)), (tuple, sorted(part)))
        self.assertTrue(are_plain_sets(company, rule, one, other, kin, most, found[1:]))
        self.assertIs(is_rows_paper(company, rule, one, other, found, kin=kin, most=most), True)

    def check_question(self, question):
        company, rule, one, other, kin = question
        least = least_row(company, rule, one, other, kin=kin)
        for most in (0, 1, 2, 3) if least is None else (0, max(least - 1, 0), least, least + 1):
            found = find_rows(company, rule, one, other, kin=kin, most=most)
            if least is not None and most >= least:
                self.check_lot(question, found, most)
            else:
                self.check_sets(question, found, most)
        losses = least_losses(company, rule, one, other, kin=kin)
        self.assertIs(losses is None, least is None)
        self.assertTrue(least is None or least <= losses)
        return least, losses

    def test_questions_by_chance(self):
        told = [self.check_question(question) for question in questions(50, 120, 150)]
        self.assertTrue({None, 0, 1, 3} <= {least for least, _ in told}, told)

    def test_companies_of_up_to_four(self):
        for question in questions(51, 10, 300, 4):
            self.check_question(question)

    def test_least_row_against_all_small_lots(self):
        looked = 0
        for company, rule, one, other, kin in questions(52, 150):
            if len(single_trees(company, 4)) > 40:
                continue
            least = least_row(company, rule, one, other, kin=kin)
            found = [greatest_row(*parting) for parting in plain_partings(company, rule, one, other, kin, 4)]
            if found:
                looked += 1
                self.assertLessEqual(least, min(found))
            if least is not None and len(find_rows(company, rule, one, other, kin=kin, most=least)[1].bundle) <= 4:
                self.assertEqual(min(found), least)
        self.assertGreater(looked, 25)

    def test_shorter_rows_can_need_more_losses(self):
        plain = (ALL, True, ALL)
        company = Company(
            ("ann", "bob"),
            {("ann", "bob"): plain, ("bob", "ann"): (Cutter("+..+-+"), True, ALL), ("bob", "bob"): plain},
            copies={"ann": Cutter("-..---", "-+..")},
        )
        self.assertEqual(self.check_question((company, WIDE, "ann", "bob", "above")), (1, 2))
        # Every lot with so short rows has more losses than two, so this one, too.
        self.assertEqual(len(find_rows(company, WIDE, "ann", "bob", kin="above", most=1)[1]), 3)

    def test_written_out(self):
        solo = Company(("a",), {("a", "a"): (ALL, True, ALL)})
        for cutter, rule, above, beside in (
            (ALL, WIDE, None, None), (LAST, WIDE, 1, 1), (TWO, WIDE, 2, 2), (Cutter("..+++"), WIDE, 3, 3), (NONE, WIDE, 0, 0),
            (Cutter("+.."), WIDE, None, None), (ALL, Rule(NONE), 0, 0), (ALL, NARROW, 1, 1), (ALL, Rule(ALL), None, 1),
        ):
            company = solo.with_answer("a", "a", (ALL, True, cutter))
            told = [least_row(company, rule, "a", "a", kin=kin, limit=20000) for kin in KINS]
            self.assertEqual(told, [above, beside], (str(cutter), str(rule)))

    def test_people_who_never_write_and_companies_that_nobody_starts(self):
        lonely = Company(("ann", "bob"), {("bob", "ann"): (ALL, True, LAST)}, starts=("ann",))
        for company in (lonely, lonely.with_starts(())):
            for one, other in (("ann", "bob"), ("bob", "ann"), ("bob", "bob"), ("ann", "ann")):
                for kin in KINS:
                    self.assertEqual(self.check_question((company, NARROW, one, other, kin)), (None, None))
        empty = lonely.with_starts(())
        self.assertEqual(find_rows(empty, WIDE, "ann", "bob", kin="above", most=3), ("sets", (), (), ()))
        self.assertIs(is_rows_paper(empty, WIDE, "ann", "bob", ("sets", (), (), ()), kin="beside", most=0), True)
        self.assertIs(is_rows_paper(PLAIN, WIDE, "ann", "bob", ("sets", (), (), ()), kin="beside", most=0), False)

    def test_the_same_again(self):
        for kin in KINS:
            one, other = (find_rows(PLAIN, WIDE, "ann", "bob", kin=kin, most=1) for _ in range(2))
            self.assertEqual(one, other)


class Judging(unittest.TestCase):
    def judge(self, question, value, most):
        company, rule, one, other, kin = question
        return is_rows_paper(company, rule, one, other, value, kin=kin, most=most)

    def test_lots_that_the_program_did_not_make(self):
        chance = Random(54)
        right = 0
        for company, rule, _, _, _ in questions(55, 60):
            lot = some_lot(chance, 6, company)
            for first in range(len(lot.bundle)):
                for second in range(len(lot.bundle)):
                    one, other = lot.bundle[first][0], lot.bundle[second][0]
                    row = greatest_row(lot, first, second)
                    for kin in KINS:
                        expected = is_plain_parting(rule, company, one, other, kin, lot, first, second)
                        right += expected
                        question, value = (company, rule, one, other, kin), ("lot", lot, first, second)
                        self.assertIs(self.judge(question, value, row), expected)
                        self.assertIs(self.judge(question, value, 1000), expected)
                        if row:
                            self.assertIs(self.judge(question, value, row - 1), False)
        self.assertGreater(right, 50)

    def test_rows_of_both_letters_count(self):
        solo = Company(("a",), {("a", "a"): (ALL, True, LAST)})
        row = (("a", None, True), *(("a", mark, False) for mark in range(4)), ("a", 0, False), ("a", 5, False))
        lot = Lot(Bundle(solo, *row), (0, 4, 6))
        self.assertEqual([row_of_losses(lot, mark) for mark in (4, 6)], [3, 1])
        for first, second in ((4, 6), (6, 4)):
            for most, right in ((1, False), (2, False), (3, True), (4, True)):
                value = ("lot", lot, first, second)
                self.assertIs(is_rows_paper(solo, NARROW, "a", "a", value, kin="beside", most=most), right)

    def test_lots_spoilt_in_one_place(self):
        question = (PLAIN, NARROW, "ann", "bob", "above")
        letters = (("ann", None, True), ("bob", 0, False), ("ann", 1, False), ("bob", 2, False), ("ann", None, True))
        lot = Lot(Bundle(PLAIN, *letters), (0, 3, 4))
        self.assertIs(self.judge(question, ("lot", lot, 0, 3), 2), True)
        for value in (
            ("lot", lot, 3, 0), ("lot", lot, 0, 0), ("lot", lot, 4, 3), ("lot", lot, 0, 1), ("lot", lot, False, 3), ("lot", lot, 0),
            ["lot", lot, 0, 3], ("sets", lot, 0, 3), ("tables", lot, 0, 3), (None, lot, 0, 3), ("lot", lot.bundle, 0, 3),
            ("lot", lot, "0", 3), ("lot", lot, 0, 9), ("lot", lot, (0,), [3]), ("lot", lot.with_come(1).with_come(2), 0, 3),
        ):
            self.assertIs(self.judge(question, value, 2), False, value)

    def test_sets_that_the_program_did_not_make(self):
        chance = Random(56)
        looked = {True: 0, False: 0}
        for question in questions(57, 80, 50):
            company, rule, one, other, kin = question
            least = least_row(company, rule, one, other, kin=kin)
            if least == 0:
                continue
            most = 2 if least is None else least - 1
            sets = find_rows(company, rule, one, other, kin=kin, most=most)[1:]
            for _ in range(12):
                told = [list(part) for part in sets]
                for _ in range(chance.choice((1, 1, 3))):
                    part = chance.choice(told)
                    if part:
                        part.remove(chance.choice(part))
                expected = are_plain_sets(company, rule, one, other, kin, most, told)
                looked[expected] += 1
                self.assertIs(self.judge(question, ("sets", *map(tuple, told)), most), expected)
        self.assertTrue(min(looked.values()) > 40, looked)

    def test_runs_that_all_sets_lack_and_runs_that_too_many_have(self):
        looked = {True: 0, False: 0}
        for question in questions(59, 60, 40):
            company, rule, one, other, kin = question
            least = least_row(company, rule, one, other, kin=kin)
            if least == 0:
                continue
            most = 2 if least is None else least - 1
            runs, none_zero, none_one = find_rows(company, rule, one, other, kin=kin, most=most)[1:]
            told = [(runs, runs, none_one), (runs, none_zero, runs), (runs, runs, runs), (runs, (), none_one), (runs, none_zero, ())]
            told += [tuple(tuple(old for old in part if old != run) for part in (runs, none_zero, none_one)) for run in runs]
            for sets in told:
                expected = are_plain_sets(company, rule, one, other, kin, most, sets)
                looked[expected] += 1
                self.assertIs(self.judge(question, ("sets", *sets), most), expected)
        self.assertTrue(min(looked.values()) > 20, looked)

    def test_runs_behind_takings_belong_to_the_sets(self):
        company = Company(("ann", "bob"), {}, takings={("ann", "bob"): (ALL, True, ALL)}, starts=("ann",))
        runs, none_zero, none_one = find_rows(company, WIDE, "ann", "bob", kin="above", most=1)[1:]
        self.assertIs(self.judge((company, WIDE, "ann", "bob", "above"), ("sets", runs, none_zero, none_one), 1), True)
        less = [tuple(run for run in part if run[0][0] == "ann") for part in (runs, none_zero, none_one)]
        self.assertLess(len(less[0]), len(runs))
        self.assertIs(self.judge((company, WIDE, "ann", "bob", "above"), ("sets", *less), 1), False)

    def test_a_row_of_losses_at_a_letter_that_may_come_and_none_at_one_that_may_not(self):
        question = (PLAIN, WIDE, "ann", "ann", "above")
        found = find_rows(*question[:4], kin="above", most=1)
        for state, row in found[1]:
            sets = [tuple(sorted({*part, (state, 1 - row)})) for part in found[1:]]
            self.assertIs(self.judge(question, ("sets", sets[0], *found[2:]), 1), False)
            self.assertIs(self.judge(question, ("sets", *sets), 1), False)

    def test_runs_with_too_long_a_row(self):
        looked = 0
        for question in (*questions(54, 30, 60), (PLAIN, WIDE, "bob", "bob", "beside")):
            company, rule, one, other, kin = question
            for most in (0, 1, 2):
                found = find_rows(company, rule, one, other, kin=kin, most=most)
                if found[0] == "sets":
                    lost = [state for state in Walk(company, rule).states() if Walk(company, rule).cost(state)]
                    for run in [(state, row) for state in lost for row in (most + 1, most + 2, 1000, 1001)]:
                        looked += 1
                        sets = tuple(tuple(sorted({*part, run})) for part in found[1:])
                        self.assertIs(self.judge(question, ("sets", *sets), most), False)
        self.assertGreater(looked, 100)

    def test_sets_of_runs_that_are_not_among_all(self):
        question = (PLAIN, WIDE, "ann", "ann", "above")
        found = find_rows(*question[:4], kin="above", most=1)
        lonely = PLAIN.with_answer("bob", "ann", None)
        sets = find_rows(lonely, WIDE, "ann", "ann", kin="above", most=1)
        run = (("bob", 0, EMPTY), 0)
        self.assertIs(self.judge((lonely, *question[1:]), sets, 1), True)
        self.assertIs(self.judge((lonely, *question[1:]), ("sets", *(tuple(sorted({*part, run})) for part in sets[1:])), 1), True)
        for at in (2, 3):
            more = tuple(sorted({*sets[at], run}))
            self.assertIs(self.judge((lonely, *question[1:]), (*sets[:at], more, *sets[at + 1:]), 1), False)
            more = tuple(sorted({*found[at], run}))
            self.assertIs(self.judge(question, (*found[:at], more, *found[at + 1:]), 1), False)

    def test_sets_with_further_runs(self):
        right = 0
        for question in questions(58, 150, 60):
            company, rule, one, other, kin = question
            least = least_row(company, rule, one, other, kin=kin)
            if least == 0:
                continue
            most = 2 if least is None else least - 1
            sets = [set(part) for part in find_rows(company, rule, one, other, kin=kin, most=most)[1:]]
            walk = Walk(company, rule)
            further = {((person, 1, EMPTY), 0) for person in company} - sets[0]
            many = len(sets[0])
            while further:
                sets[0] |= further
                told = {run for state, row in further for run in plain_runs(company, rule, walk.steps(state), row, most)}
                further = told - sets[0]
            for part in sets[1:]:
                self.assertTrue(part <= sets[0])
            expected = are_plain_sets(company, rule, one, other, kin, most, sets)
            value = ("sets", *(tuple(sorted(part)) for part in sets))
            self.assertIs(self.judge(question, value, most), expected)
            right += expected and len(sets[0]) > many
        self.assertGreater(right, 3)

    def test_sets_spoilt_in_one_place(self):
        question = (PLAIN, WIDE, "ann", "ann", "above")
        found = find_rows(*question[:4], kin="above", most=1)
        self.assertIs(self.judge(question, found, 1), True)
        self.assertIs(self.judge(question, found, 0), False)
        self.assertIs(self.judge(question, found, 2), False)
        for word in ("set", "Sets", "lot", "tables", None, 0, found):
            self.assertIs(self.judge(question, (word, *found[1:]), 1), False)
        for at in (1, 2, 3):
            part = found[at]
            run = part[0]
            state = run[0]
            spoilt = [
                part[::-1], (*part, part[-1]), (part[0], *part), list(part), {told: 0 for told in part}, None, 0, "x", PLAIN,
                ((state, 1 - run[1]), *part[1:]), ((state, True), *part[1:]), ((state, False), *part[1:]), ((state, -1), *part[1:]),
                ((state, None), *part[1:]), ((state,), *part[1:]), ((state, 0, 0), *part[1:]), ([state, 0], *part[1:]),
                (state, *part[1:]), ((("eve", *state[1:]), 0), *part[1:]), (((state[0], False, state[2]), 0), *part[1:]),
                (None, *part), (0, *part), (*part, "x"), (*part, (state, 2)), ((("ann", 2, EMPTY), 0), *part),
            ]
            if at == 1:
                spoilt += [tuple(told for told in part if told != run) for run in part]
            for value in spoilt:
                self.assertIs(self.judge(question, (*found[:at], value, *found[at + 1:]), 1), False, value)

    def test_values_of_other_kinds(self):
        for question in ((PLAIN, WIDE, "ann", "bob", "above"), (PLAIN, NARROW, "bob", "bob", "beside")):
            for value in several():
                self.assertIs(self.judge(question, value, 1), False)
                for word in ("lot", "sets"):
                    for part in ((word, value, value, value), (word, value, 0, 1), (word, value), (value, word, (), ())):
                        self.assertIs(self.judge(question, part, 1), False, part)


class Errors(unittest.TestCase):
    def calls(self, company, rule, one, other, kin, most, limit):
        return (
            lambda: find_rows(company, rule, one, other, limit=limit, most=most, kin=kin),
            lambda: least_row(company, rule, one, other, limit=limit, kin=kin),
            lambda: is_rows_paper(company, rule, one, other, 3, most=most, kin=kin),
        )

    def check_kept(self, call, error, name, value):
        with self.assertRaises(error) as caught:
            call()
        self.assertEqual(getattr(caught.exception, name), value)
        self.assertIs(getattr(caught.exception, name).__class__, value.__class__)

    def test_order_of_errors(self):
        for value in (*several(), "eve", "Above"):
            if not isinstance(value, Company):
                for call in self.calls(value, 3, 3, 3, 3, -1, -1):
                    self.assertRaises(InvalidCompany, call)
            if not isinstance(value, Rule):
                for call in self.calls(PLAIN, value, 3, 3, 3, -1, -1):
                    self.assertRaises(InvalidRule, call)
            if value != "ann":
                for call in self.calls(PLAIN, WIDE, value, 3, 3, -1, -1):
                    self.check_kept(call, UnknownName, "name", value)
                for call in self.calls(PLAIN, WIDE, "ann", value, 3, -1, -1):
                    self.check_kept(call, UnknownName, "name", value)
            for call in self.calls(PLAIN, WIDE, "ann", "bob", value, -1, -1):
                self.assertRaises(InvalidOperation, call)

    def test_numbers(self):
        for value in (*several(), -1, 1001, True, False, 20001, 0, 1000):
            whole = isinstance(value, int) and not isinstance(value, bool)
            find, least, judge = self.calls(PLAIN, WIDE, "ann", "bob", "above", value, -1)
            if whole and 0 <= value <= 1000:
                self.check_kept(find, InvalidNumber, "value", -1)
                self.assertIs(judge(), False)
            else:
                self.check_kept(find, InvalidNumber, "value", value)
                self.check_kept(judge, InvalidNumber, "value", value)
            if not (whole and 1 <= value <= 20000):
                for call in self.calls(PLAIN, WIDE, "ann", "bob", "above", 1, value)[:2]:
                    self.check_kept(call, InvalidNumber, "value", value)

    def test_limits(self):
        for rule, most in ((WIDE, 0), (WIDE, 1), (WIDE, 5), (NARROW, 0), (NARROW, 1), (NARROW, 3)):
            many = len(plain_all_runs(PLAIN, rule, most))
            for limit in (1, many - 1, many, many + 1, 20000):
                call = self.calls(PLAIN, rule, "ann", "bob", "above", most, limit)[0]
                if limit < many:
                    self.check_kept(call, TooMany, "limit", limit)
                else:
                    call()

    def test_more_runs_than_states(self):
        # Whoever comes last is lost as often as one likes, so there is a run for each length of the row.
        solo = Company(("a",), {("a", "a"): (ALL, False, ALL)})
        many = len(Walk(solo, NARROW).states())
        self.assertEqual(find_rows(solo, NARROW, "a", "a", kin="above", most=3)[0], "lot")
        self.assertEqual(len(plain_all_runs(solo, NARROW, 1000)), 1000 + many - 1)
        for limit, found in ((1000 + many - 1, True), (1000 + many - 2, False)):
            call = self.calls(solo, NARROW, "a", "a", "above", 1000, limit)[0]
            if found:
                self.assertEqual(call()[0], "lot")
            else:
                self.check_kept(call, TooMany, "limit", limit)

    def test_limits_that_are_not_told(self):
        solo = Company(("a",), {("a", "a"): (ALL, False, ALL)})
        states = len(Walk(solo, NARROW).states())
        for most, many in ((1000, 1000 + states - 1), (3, 3 + states - 1)):
            self.assertEqual(len(plain_all_runs(solo, NARROW, most)), many)
        people = ("ann", "bob", "cyd", "dan")
        company = Company(people, {(one, other): (ALL, False, ALL) for one in people for other in people})
        self.assertEqual(len(plain_all_runs(company, NARROW, 498)), 2000)
        self.assertEqual(find_rows(company, NARROW, "ann", "bob", kin="above", most=498)[0], "lot")
        call = lambda: find_rows(company, NARROW, "ann", "bob", kin="above", most=499)
        self.check_kept(call, TooMany, "limit", 2000)
        large = Company(people, {(one, other): (ALL, True, ALL) for one in people for other in people})
        self.check_kept(lambda: least_row(large, NARROW, "ann", "bob", kin="above"), TooMany, "limit", 2000)

    def test_limits_of_least_row(self):
        for rule in (WIDE, NARROW):
            least = least_row(PLAIN, rule, "ann", "bob", kin="above")
            # More losses in a row allow more runs, so the last number needs the most.
            many = len(plain_all_runs(PLAIN, rule, least))
            self.assertEqual(least_row(PLAIN, rule, "ann", "bob", kin="above", limit=many), least)
            for limit in (1, many - 1):
                call = self.calls(PLAIN, rule, "ann", "bob", "above", 0, limit)[1]
                self.check_kept(call, TooMany, "limit", limit)

    def test_limits_of_least_row_without_a_parting(self):
        lonely = PLAIN.with_answer("ann", "bob", None)
        first = PLAIN.with_answer("ann", "bob", (ALL, True, Cutter("+.."))).with_answer("bob", "ann", (ALL, True, Cutter("+..")))
        for company in (lonely, first):
            many = len(Walk(company, WIDE).states())
            self.assertIsNone(least_row(company, WIDE, "ann", "bob", kin="above", limit=many))
            call = self.calls(company, WIDE, "ann", "bob", "above", 0, many - 1)[1]
            if many > 1:
                self.check_kept(call, TooMany, "limit", many - 1)
        self.assertGreater(len(plain_all_runs(first, WIDE, 1000)), len(Walk(first, WIDE).states()))

    def test_fewer_runs_than_states(self):
        # Nothing is bound, so no letter needs to be lost, and no run has a lost one; but the states have them, too.
        blind = Rule(NONE)
        runs = len(plain_all_runs(PLAIN, blind, 0))
        self.assertLess(runs, len(Walk(PLAIN, blind).states()))
        self.assertEqual(least_row(PLAIN, blind, "ann", "bob", kin="above", limit=runs), 0)
        self.check_kept(self.calls(PLAIN, blind, "ann", "bob", "above", 0, runs - 1)[1], TooMany, "limit", runs - 1)
        self.check_kept(lambda: least_losses(PLAIN, blind, "ann", "bob", kin="above", limit=runs), TooMany, "limit", runs)

    def test_limits_of_least_row_by_chance(self):
        results = set()
        for company, rule, one, other, kin in (*questions(53, 60, 120, 3), (PLAIN, WIDE, "ann", "bob", "above")):
            least = least_row(company, rule, one, other, kin=kin, limit=20000)
            results.add(least)
            states = len(Walk(company, rule).states())
            if least is None:
                needed, counts = states, [states]
            else:
                counts = [len(plain_all_runs(company, rule, most)) for most in range(least + 1)]
                needed = max(counts)
            for limit in {count + more for count in (*counts, states) for more in (-1, 0, 1) if count + more > 0}:
                call = lambda: least_row(company, rule, one, other, kin=kin, limit=limit)
                if limit < needed:
                    self.check_kept(call, TooMany, "limit", limit)
                else:
                    self.assertEqual(call(), least)
        self.assertTrue({None, 0, 1, 2} <= results, results)

    def test_least_row_looks_no_further_than_its_limit(self):
        people = ("ann", "bob", "cyd")
        large = Company(people, {(one, other): (ALL, True, Cutter("++..+++")) for one in people for other in people})
        looked = []
        steps = Heads.upon
        try:
            Heads.upon = lambda self, state: (looked.append(state), steps(self, state))[1]
            for cutter, kin in ((NONE, "above"), (LAST, "beside"), (ALL, "above")):
                for limit in (1, 20, 300):
                    looked.clear()
                    call = lambda: least_row(large, Rule(cutter), "ann", "bob", kin=kin, limit=limit)
                    self.check_kept(call, TooMany, "limit", limit)
                    self.assertLessEqual(len(looked), 8 * limit)
        finally:
            Heads.upon = steps

    def test_functions_stand_in_the_module_itself(self):
        for part in (find_rows, is_rows_paper, least_row):
            self.assertEqual(part.__module__, "namedabove.walk.rows")
        self.assertRaises(TypeError, find_rows, PLAIN, WIDE, "ann", "bob", kin="above")
        self.assertRaises(TypeError, is_rows_paper, PLAIN, WIDE, "ann", "bob", 3, kin="above")
        self.assertRaises(TypeError, find_rows, PLAIN, WIDE, "ann", "bob", most=1)


if __name__ == "__main__":
    unittest.main()
