"""Stage 13: which companies helpers looks at, and so for which limits it raises TooMany."""

import unittest

from namedabove.base.companies import Company
from namedabove.base.cutters import Cutter
from namedabove.errors import TooMany
from namedabove.read.rules import Rule
from namedabove.walk.helpers import help_table, helpers, helps
from tests.test_helpers import (
    ALL, LAST, NARROW, NONE, PLAIN, TWO, WIDE, all_sets, many_states, plain_fewest, plain_helps, small_questions,
)

NAMES = ("zoe", "yan", "xu")


def sizes_of(company, rule):
    """The number of states of the company helped by each set of people."""
    return {people: many_states(company, rule, people) for people in all_sets(company)}


def sizes_looked_at(sizes, fewest):
    """The numbers of states of the companies that must be looked at, by the sets of fewest people that help."""
    return [sizes[people] for people in sizes if not fewest or len(people) <= len(fewest[0])]


def limits_for(sizes):
    """Limits at, one below and one above each number of states, and one between the two greatest numbers."""
    ordered = sorted(set(sizes.values()))
    told = {size + more for size in ordered for more in (-1, 0, 1)} | {sum(ordered[-2:]) // 2}
    return sorted(limit for limit in told if 1 <= limit <= 20000)


def renaming(company):
    """New names for the people, in the opposite order."""
    return dict(zip(company, NAMES))


def set_renamed(names, people):
    return tuple(sorted(names[person] for person in people))


class Checks(unittest.TestCase):
    def check_too_many(self, call, limit):
        with self.assertRaises(TooMany) as caught:
            call()
        self.assertEqual(caught.exception.limit, limit)


class ByChance(Checks):
    def check_question(self, question, most, sizes):
        """What was seen: whether some set helps, how many companies have too many states, whether others have."""
        company, rule, one, other, kin = question
        fewest = plain_fewest(company, rule, one, other, kin, most)
        looked = sizes_looked_at(sizes, fewest)
        names = renaming(company)
        renamed = tuple(sorted(set_renamed(names, people) for people in fewest))
        seen = set()
        for limit in limits_for(sizes):
            call = lambda: helpers(company, rule, one, other, kin=kin, most=most, limit=limit)
            again = lambda: helpers(company.renamed(names), rule, names[one], names[other], kin=kin, most=most, limit=limit)
            beyond = sum(limit < size for size in looked)
            if beyond:
                self.check_too_many(call, limit)
                self.check_too_many(again, limit)
            else:
                self.assertEqual((call(), again()), (fewest, renamed))
            many = {0: "none", 1: "one", len(looked): "all"}.get(beyond, "some")
            seen.add((bool(fewest), many, limit < max(sizes.values())))
        return seen

    def test_all_questions_of_small_companies(self):
        seen = set()
        for seed, many, most_people in ((134, 60, 2), (136, 40, 3)):
            for question in small_questions(seed, many, most_people):
                sizes = sizes_of(*question[:2])
                for most in (0, 1, None):
                    seen |= self.check_question(question, most, sizes)
        # Some set helps, and just the companies that need not be looked at have too many states.
        self.assertIn((True, "none", True), seen)
        for helping in (True, False):
            for many in ("one", "some", "all"):
                self.assertIn((helping, many, True), seen)
            self.assertIn((helping, "none", False), seen)

    def test_all_tables_of_small_companies(self):
        seen = set()
        for company, rule, _, _, kin in small_questions(137, 30, 3):
            sizes = sizes_of(company, rule)
            for most in (1, None):
                seen |= self.check_table(company, rule, kin, most, sizes)
        self.assertEqual(seen, {(True, True), (False, True), (False, False)})

    def check_table(self, company, rule, kin, most, sizes):
        """What was seen: whether TooMany was raised, and whether some helped company has too many states."""
        pairs = [(one, other) for one in company for other in company]
        fewest = {pair: plain_fewest(company, rule, *pair, kin, most) for pair in pairs}
        looked = [size for pair in pairs for size in sizes_looked_at(sizes, fewest[pair])]
        names = renaming(company)
        table = [(pair, len(fewest[pair][0]) if fewest[pair] else None) for pair in pairs]
        renamed = sorted(((names[one], names[other]), many) for (one, other), many in table)
        seen = set()
        for limit in limits_for(sizes):
            call = lambda: help_table(company, rule, kin=kin, most=most, limit=limit)
            again = lambda: help_table(company.renamed(names), rule, kin=kin, most=most, limit=limit)
            if limit < max(looked):
                self.check_too_many(call, limit)
                self.check_too_many(again, limit)
            else:
                self.assertEqual((list(call().items()), list(again().items())), (table, renamed))
            seen.add((limit < max(looked), limit < max(sizes.values())))
        return seen

    def test_all_sets_one_by_one(self):
        for company, rule, one, other, kin in small_questions(135, 30, 2):
            sizes = sizes_of(company, rule)
            for people in sizes:
                expected = plain_helps(company, rule, one, other, people, kin, None)
                for limit in limits_for(sizes):
                    call = lambda: helps(company, rule, one, other, people, kin=kin, limit=limit)
                    if limit < sizes[people]:
                        self.check_too_many(call, limit)
                    else:
                        self.assertIs(call(), expected)


class WrittenOut(Checks):
    def test_a_set_that_does_not_help_has_most_states(self):
        # Whoever is helped alone makes many states by takings; but only the other one helps.
        company = Company(
            ("ann", "bob"), {("ann", "bob"): (LAST, True, NONE)}, takings={("ann", "ann"): (ALL, True, Cutter("..-+-"))},
        )
        rule = Rule(ALL)
        sizes = sizes_of(company, rule)
        least, ann, bob, _ = sizes.values()
        self.assertGreater(ann, max(least, bob))
        told = lambda limit: helpers(company, rule, "ann", "bob", kin="above", limit=limit)
        self.assertEqual(told(ann), (("bob",),))
        for limit in (ann - 1, bob, least - 1):
            self.check_too_many(lambda: told(limit), limit)

    def test_no_set_helps(self):
        self.assertEqual(list(sizes_of(PLAIN, NARROW).values()), [44, 85, 68, 2702])
        for limit in (43, 44, 67, 80, 84, 100, 1999, 2001, 2701):
            self.check_too_many(lambda: helpers(PLAIN, NARROW, "ann", "ann", kin="above", limit=limit), limit)
            self.check_too_many(lambda: help_table(PLAIN, NARROW, kin="above", limit=limit), limit)
        for limit in (2702, 20000):
            self.assertEqual(helpers(PLAIN, NARROW, "ann", "ann", kin="above", limit=limit), ())
            self.assertEqual(set(help_table(PLAIN, NARROW, kin="above", limit=limit).values()), {None})

    def test_no_set_helps_whatever_the_people_are_called(self):
        company = Company(
            ("ann", "lost"),
            {
                ("ann", "lost"): (ALL, True, Cutter("..++-")), ("lost", "ann"): (Cutter("..", ".."), True, LAST),
                ("lost", "lost"): (ALL, True, Cutter("+..+-+", "+..")),
            },
            takings={("lost", "ann"): (ALL, True, Cutter("-..")), ("lost", "lost"): (ALL, True, Cutter("..", "all"))},
            starts=("lost",),
        )
        rule = Rule(TWO)
        self.assertEqual(list(sizes_of(company, rule).values()), [20, 80, 1226, 2429])
        for ann, lost in (("ann", "lost"), ("b", "ann")):
            told = lambda limit: helpers(company.renamed({"ann": ann, "lost": lost}), rule, ann, ann, kin="above", limit=limit)
            for limit in (19, 20, 79, 80, 120, 1225, 1226, 2000, 2428):
                self.check_too_many(lambda: told(limit), limit)
            self.assertEqual(told(2429), ())

    def test_the_printed_example_is_a_single_question(self):
        # The document prints its answer, though with its limit one of the companies has too many states.
        self.assertEqual(helpers(PLAIN, NARROW, "ann", "ann", kin="above"), ())
        equal = PLAIN.with_copy("ann", Cutter("all", "all")).with_answer("ann", "bob", (ALL, True, TWO >> TWO))
        self.assertEqual(helpers(equal, Rule(LAST >> LAST), "ann", "ann", kin="above", most=None, limit=2000), ())
        swapped = PLAIN.renamed({"ann": "bob", "bob": "ann"})
        for call in (
            lambda: helpers(swapped, NARROW, "bob", "bob", kin="above"),
            lambda: helpers(PLAIN.renamed({"ann": "ann", "bob": "bo"}), NARROW, "ann", "ann", kin="above"),
            lambda: helpers(PLAIN.with_copy("bob", LAST), NARROW, "ann", "ann", kin="above"),
            lambda: helpers(PLAIN, Rule(TWO), "ann", "ann", kin="above"),
            lambda: helpers(PLAIN, NARROW, "ann", "bob", kin="above"),
            lambda: helpers(PLAIN, NARROW, "bob", "ann", kin="above"),
            lambda: helpers(PLAIN, NARROW, "ann", "ann", kin="beside"),
            lambda: helpers(PLAIN, NARROW, "ann", "ann", kin="above", most=1),
            lambda: helps(PLAIN, NARROW, "ann", "ann", ("ann", "bob"), kin="above"),
            lambda: help_table(PLAIN, NARROW, kin="above"),
        ):
            self.check_too_many(call, 2000)

    def test_the_limit_that_is_not_told_is_2000(self):
        company = Company(("ann", "bob"), {("ann", "bob"): (ALL, True, ALL), ("bob", "ann"): (ALL, True, ALL)})
        self.assertGreater(many_states(company, NARROW, ()), 2000)
        for call in (
            lambda: helpers(company, NARROW, "ann", "ann", kin="above"), lambda: help_table(company, NARROW, kin="above"),
            lambda: helps(company, NARROW, "ann", "ann", (), kin="above"),
        ):
            self.check_too_many(call, 2000)

    def test_tables(self):
        sizes = sizes_of(PLAIN, WIDE)
        most = max(sizes.values())
        self.assertEqual(set(help_table(PLAIN, WIDE, kin="above", limit=most).values()), {2})
        self.check_too_many(lambda: help_table(PLAIN, WIDE, kin="above", limit=most - 1), most - 1)
        self.assertEqual(set(help_table(PLAIN, WIDE, kin="above", most=0, limit=sizes[()]).values()), {0})


if __name__ == "__main__":
    unittest.main()
