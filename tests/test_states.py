"""[7.1] to [7.3] and stage 7: short forms, states and steps, and their errors."""

import unittest
from itertools import product
from random import Random

from namedabove.base.companies import Company
from namedabove.base.cutters import Cutter
from namedabove.errors import (
    InvalidBundle, InvalidCompany, InvalidNumber, InvalidOperation, InvalidRule, InvalidState, TooMany, UnknownName,
)
from namedabove.read.rules import Rule
from namedabove.talk.bundles import Bundle
from namedabove.walk.states import MAX_STATES, Walk
from tests.plain_lots import some_lot
from tests.plain_talks import some_company, some_rule
from tests.plain_walks import (
    colour_short, comes_plain, is_possible, plain_begins, plain_colours, plain_cost, plain_short, plain_state_of, plain_states,
    plain_steps,
)
from tests.values import several

ALL, LAST, TWO = Cutter("all"), Cutter("..+"), Cutter("..++")
PAIR = Company(
    ("ann", "bob"), {("ann", "bob"): (ALL, True, ALL), ("bob", "ann"): (ALL, True, TWO)},
    takings={("bob", "ann"): (ALL, True, LAST)}, starts=("ann",), copies={"bob": LAST},
)
WIDE, BLIND = Rule(ALL, sees_lost=True), Rule(ALL)
EMPTY = ((), (), ())


def all_shorts(top):
    """All short forms of rows of colours up to the top, with few and with many marks."""
    told = {colour_short(row) for many in range(8) for row in product(range(top + 1), repeat=many)}
    return sorted(told)


class Short(unittest.TestCase):
    def test_rows_of_up_to_fourteen(self):
        chance = Random(20)
        for many in range(15):
            for _ in range(30):
                row = tuple(chance.choice((-3, 0, 1, 2, 7, 10**11)) for _ in range(many))
                self.assertEqual(Walk.short(row), plain_short(row))
        self.assertEqual(Walk.short((2, 2, 2, 2, 2, 2)), ((2, 2), (2,), (2, 2, 2)))
        self.assertEqual(Walk.short((5, 4, 3, 2, 1)), ((5, 4, 3, 2, 1), (), ()))
        self.assertEqual(Walk.short((0, 1, 3, -1, 3, 0, 1, 0)), ((0, 1), (-1, 3), (0, 1, 0)))
        self.assertEqual(Walk(PAIR, WIDE).short((1,)), ((1,), (), ()))

    def test_what_is_no_row(self):
        for value in (*several(), (True,), (0, False), (0, None), (0, "1"), ((0,),), [0, 1], (0, 1, 2, 3, 4, 5, True)):
            if value not in ((), (0,)):
                self.assertRaises(InvalidOperation, Walk.short, value)


class Making(unittest.TestCase):
    def test_errors(self):
        for value in several():
            if not isinstance(value, Company):
                self.assertRaises(InvalidCompany, Walk, value, 3)
            if not isinstance(value, Rule):
                self.assertRaises(InvalidRule, Walk, PAIR, value)

    def test_properties_equality_and_str(self):
        walk = Walk(PAIR, WIDE)
        self.assertEqual((walk.company, walk.rule), (PAIR, WIDE))
        self.assertEqual(str(walk), "walk of 2 people by seeing rule all")
        self.assertEqual(str(Walk(PAIR.part(("ann",)), Rule(LAST))), "walk of 1 people by rule ..+")
        self.assertIs(walk == Walk(PAIR, Rule(Cutter(), sees_lost=True)), True)
        self.assertIs(walk != Walk(PAIR, Rule(Cutter(), sees_lost=True)), False)
        for value in (Walk(PAIR, BLIND), Walk(PAIR.with_copy("bob", TWO), WIDE), Walk(PAIR, Rule(TWO, sees_lost=True)), *several()):
            self.assertIs(walk == value, False)
            self.assertIs(value == walk, False)
            self.assertIs(walk != value, True)
        for name in ("company", "rule"):
            with self.assertRaises(AttributeError):
                setattr(walk, name, PAIR)
        self.assertRaises(TypeError, iter, walk)
        self.assertRaises(TypeError, len, walk)
        self.assertEqual(MAX_STATES, 20000)

    def test_methods_stand_in_the_class_itself(self):
        for name in (
            "__init__", "company", "rule", "short", "is_state", "may_come", "cost", "begins", "steps", "states", "state_of",
            "__eq__", "__str__",
        ):
            self.assertIn(name, vars(Walk))
        self.assertIsInstance(vars(Walk)["short"], staticmethod)
        self.assertEqual(Walk.__module__, "namedabove.walk.states")


class States(unittest.TestCase):
    def test_all_short_forms(self):
        chance = Random(21)
        for _ in range(6):
            company, rule = some_company(chance), some_rule(chance)
            for rule in (rule.seeing(), rule.blind()):
                walk = Walk(company, rule)
                top = max(plain_colours(rule))
                for person, own, short in product(company.people[:2], (0, 1, 2), all_shorts(2)):
                    colours = (own, *short[0], *short[2])
                    right = max(colours) <= top and is_possible(company, rule, (person, own, short))
                    # With no mark between, more than five marks have the colour 2 there, which only the blind know.
                    right = right and not (rule.sees_lost and short[2] and not short[1])
                    self.assertIs(walk.is_state((person, own, short)), right, (str(rule), person, own, short))

    def test_colours_that_are_none_beside_states_that_are_known(self):
        for rule in (WIDE, BLIND):
            walk = Walk(PAIR, rule)
            for person, own, short in walk.states(limit=20000):
                for wrong in (-4, -3, -2, -1, 3, 4, 5, 6) + ((2,) if rule.sees_lost else ()):
                    self.assertIs(walk.is_state((person, wrong, short)), False)
                self.assertIs(walk.is_state((person, own, short)), True)

    def test_values_that_are_no_states(self):
        right = ("ann", 0, ((0, 1), (0, 1), (0, 0, 1)))
        wrong = [
            ("ann", 0), (*right, 0), list(right), ("eve", *right[1:]), (0, *right[1:]), (None, *right[1:]), (("ann",), *right[1:]),
            (["ann"], *right[1:]),
            *[("ann", own, right[2]) for own in (True, False, -1, 3, None, "0", (0,), [0], 10**39)],
            *[("ann", 0, short) for short in (
                (), ((),), ((), ()), ((), (), (), ()), [(), (), ()], ([], (), ()), ((), [], ()), ((), (), []), None, 0, "",
                ((0, 1, 0, 1, 0, 1), (), ()), ((0,), (0,), ()), ((), (0,), ()), ((0,), (), (0, 0, 0)), ((0, 1), (0,), (0, 0)),
                ((0, 1), (0,), (0, 0, 0, 0)), ((0, 1, 0), (0,), (0, 0, 0)), ((0, 1), (1, 0), (0, 0, 0)), ((0, 1), (0, 0), (0, 0, 0)),
                ((0, 1), (2,), (0, 0, 0)), ((0, 1), (0, 1, 2), (0, 0, 0)), ((0, 3), (0,), (0, 0, 0)), ((0, -1), (0,), (0, 0, 0)),
                ((True,), (), ()), ((0, 1), (True,), (0, 0, 0)), ((0, 1), (False, 1), (0, 0, 0)), ((0, 1), (0,), (0, 0, True)),
                ((None,), (), ()), (("0",), (), ()), (((0,),), (), ()), (([0],), (), ()), ((0, 1), None, (0, 0, 0)),
                ((0, 1), (0,), None), ((0, 1), 0, (0, 0, 0)), ({}, (), ()), ((0, 1), {0: 1}, (0, 0, 0)),
            )],
            *several(),
        ]
        for walk in (Walk(PAIR, WIDE), Walk(PAIR, Rule(Cutter("..")))):
            self.assertIs(walk.is_state(right), True)
            for value in wrong:
                self.assertIs(walk.is_state(value), False, value)
                for call in (walk.may_come, walk.cost, walk.steps):
                    self.assertRaises(InvalidState, call, value)
                self.assertRaises(InvalidState, walk.steps, value, takings=3)
            for value in several():
                if not isinstance(value, bool):
                    self.assertRaises(InvalidOperation, walk.steps, right, takings=value)

    def test_written_out(self):
        seeing, blind = Walk(PAIR, WIDE), Walk(PAIR, BLIND)
        long, none = ((0, 0), (0,), (0, 0, 0)), ((2, 2), (), (2, 2, 2))
        for state, seen, unseen in (
            (("ann", 0, long), 0, 0), (("ann", 1, long), 1, None), (("ann", 2, long), None, 1), (("ann", 0, none), None, 0),
            (("ann", 1, ((1, 2), (), (2, 1, 1))), None, 0), (("ann", 0, ((2, 2), (1,), (2, 2, 2))), None, None),
            (("ann", 0, ((0, 0), (0, 1), (0, 0, 0))), 1, None), (("bob", 0, ((1, 1), (0, 1), (1, 1, 0))), 0, 0),
            (("bob", 0, ((1, 1), (), (1, 1, 0))), None, 0), (("ann", 2, EMPTY), None, 1), (("ann", 0, EMPTY), 0, 0),
            (("bob", 1, ((1, 0), (), ())), 1, None), (("bob", 1, ((0, 1), (), ())), 0, 0),
        ):
            for walk, cost in ((seeing, seen), (blind, unseen)):
                self.assertIs(walk.is_state(state), cost is not None, state)
                if cost is not None:
                    self.assertEqual(walk.cost(state), cost)
                    self.assertIs(walk.may_come(state), cost == 0)

    def test_beginnings_and_steps_by_chance(self):
        chance = Random(22)
        for _ in range(60):
            company, rule = some_company(chance), some_rule(chance)
            walk = Walk(company, rule)
            self.assertEqual(walk.begins(), tuple(plain_begins(company, rule)))
            states = [state for state in product(company.people, plain_colours(rule), all_shorts(1)) if walk.is_state(state)]
            for state in chance.sample(states, 40):
                for takings in (True, False):
                    expected = plain_steps(company, rule, state, takings)
                    self.assertEqual(walk.steps(state, takings=takings), tuple(expected))
                self.assertEqual(walk.steps(state), tuple(plain_steps(company, rule, state)))
                self.assertIs(walk.may_come(state), comes_plain(company, rule, state))
                self.assertEqual(walk.cost(state), plain_cost(company, rule, state))

    def test_takings(self):
        walk = Walk(PAIR, WIDE)
        state = ("bob", 0, ((1,), (), ()))
        answers = tuple(("ann", own, ((1, 0), (), ())) for own in (0, 1))
        takings = tuple(("ann", own, ((0,), (), ())) for own in (0, 1))
        self.assertEqual(walk.steps(state), tuple(sorted(takings + answers)))
        self.assertEqual(walk.steps(state, takings=True), tuple(sorted(takings + answers)))
        self.assertEqual(walk.steps(state, takings=False), answers)

    def test_all_states(self):
        chance = Random(23)
        looked = 0
        while looked < 25:
            company, rule = some_company(chance, chance.choice((1, 2))), some_rule(chance)
            expected = plain_states(company, rule)
            if len(expected) > 600:
                continue
            looked += 1
            walk = Walk(company, rule)
            self.assertEqual(walk.states(), tuple(expected))
            many = max(len(expected), 1)
            self.assertEqual(walk.states(limit=many), tuple(expected))
            self.assertEqual(walk.states(limit=20000), tuple(expected))
            if many > 1:
                for limit in (many - 1, 1):
                    with self.assertRaises(TooMany) as caught:
                        walk.states(limit=limit)
                    self.assertEqual(caught.exception.limit, limit)

    def test_no_states(self):
        walk = Walk(PAIR.with_starts(()), WIDE)
        self.assertEqual((walk.begins(), walk.states(), walk.states(limit=1)), ((), (), ()))
        self.assertEqual(len(walk.steps(("ann", 0, EMPTY))), 2)

    def test_as_many_states_as_there_can_be(self):
        people = ("ann", "bob", "cyd", "dan")
        company = Company(people, {(one, other): (ALL, True, ALL) for one in people for other in people})
        walk = Walk(company, WIDE)
        self.assertEqual(len(walk.states()), 4 * 2 * (63 + 4 * 3 * 8))
        self.assertTrue(all(walk.is_state(state) for state in walk.states()))
        blind = Walk(company, Rule(Cutter("..")))
        self.assertEqual(len(blind.states(limit=16032)), 4 * 3 * (364 + 9 * 4 * 27))
        self.assertRaises(TooMany, blind.states, limit=16031)
        with self.assertRaises(TooMany) as caught:
            blind.states()
        self.assertEqual(caught.exception.limit, 2000)

    def test_limits_that_are_none(self):
        walk = Walk(PAIR.with_starts(()), WIDE)
        for value in (*several(), 0, -1, 20001, True, False, 10**12):
            if isinstance(value, bool) or not isinstance(value, int) or not 1 <= value <= 20000:
                with self.assertRaises(InvalidNumber) as caught:
                    walk.states(limit=value)
                self.assertEqual(caught.exception.value, value)
                self.assertIs(caught.exception.value.__class__, value.__class__)


class OfLetters(unittest.TestCase):
    def check_letters(self, walk, bundle, colours):
        """Each letter has the state that the document tells; it is a beginning, or a step from that of the one above."""
        states = {}
        for mark, (_, upon, begins) in enumerate(bundle):
            states[mark] = plain_state_of(walk.rule, bundle, mark, colours)
            way = {above: colours[above] for above in (*bundle.way_of(mark), mark)}
            if states[mark] is None:
                for given in (colours, way):
                    self.assertRaises(InvalidState, walk.state_of, bundle, mark, given)
                continue
            self.assertEqual(walk.state_of(bundle, mark, colours), states[mark])
            self.assertEqual(walk.state_of(bundle, mark, way), states[mark])
            self.assertIs(walk.is_state(states[mark]), True)
            if upon is None:
                self.assertIn(states[mark], walk.begins())
            elif states[upon] is not None:
                self.assertIn(states[mark], walk.steps(states[upon]))
                if not begins:
                    self.assertIn(states[mark], walk.steps(states[upon], takings=False))

    def test_letters_by_chance(self):
        chance = Random(24)
        for _ in range(150):
            rule, bundle = some_rule(chance), some_lot(chance).bundle
            colours = {mark: chance.choice(plain_colours(rule)) for mark in range(len(bundle))}
            self.check_letters(Walk(bundle.company, rule), bundle, colours)

    def test_colours_that_are_none(self):
        row = (("ann", None, True), ("bob", 0, False), ("ann", 1, False), ("bob", 0, False))
        bundle = Bundle(PAIR, *row)
        seeing, blind = Walk(PAIR, WIDE), Walk(PAIR, BLIND)
        right = {2: 1, 0: 1, 1: 1}
        for walk in (seeing, blind):
            for given in (right, {**right, 3: 0}):
                self.assertEqual(walk.state_of(bundle, 2, given), ("ann", 1, ((1, 1), (), ())))
            for given in (
                {0: 1, 1: 1}, {0: 1, 2: 1}, {1: 1, 2: 1}, {}, {**right, 4: 0}, {**right, -1: 0}, {**right, "3": 0}, {0: 1, True: 1, 2: 1},
                {**right, None: 0}, {**right, 0: True}, {**right, 3: True}, {**right, 3: 3}, {**right, 3: None}, {**right, 0: -1},
                {**right, 0: (1,)}, {**right, 0: "1"}, (1, 1, 1), [1, 1, 1], list(right.items()), {**right, (3,): 0}, None, 0,
            ):
                self.assertRaises(InvalidOperation, walk.state_of, bundle, 2, given)
            for value in several():
                self.assertRaises(InvalidOperation, walk.state_of, bundle, 0, value)
        for given in ({**right, 3: 2}, {**right, 0: 2}, {0: 2, 1: 2, 2: 2}):
            self.assertRaises(InvalidOperation, seeing.state_of, bundle, 2, given)
        self.assertEqual(blind.state_of(bundle, 2, {0: 2, 1: 2, 2: 2}), ("ann", 2, ((2, 2), (), ())))
        self.assertEqual(blind.state_of(bundle, 2, {0: 2, 1: 1, 2: 1}), ("ann", 1, ((2, 1), (), ())))
        self.assertRaises(InvalidState, blind.state_of, bundle, 2, {0: 0, 1: 2, 2: 1})
        self.assertEqual(seeing.state_of(bundle, 2, {0: 0, 1: 1, 2: 1}), ("ann", 1, ((0, 1), (), ())))
        # Only the letter itself needs a state.
        self.assertEqual(blind.state_of(bundle, 2, {0: 0, 1: 1, 2: 2}), ("ann", 2, ((0, 1), (), ())))

    def test_order_of_errors(self):
        bundle = Bundle(PAIR, ("ann", None, True), ("bob", 0, False))
        walk = Walk(PAIR, BLIND)
        for value in several():
            self.assertRaises(InvalidBundle, walk.state_of, value, 9, 9)
        for company in (PAIR.with_copy("ann", LAST), PAIR.with_starts(("ann", "bob"))):
            self.assertRaises(InvalidBundle, walk.state_of, Bundle(company, ("ann", None, True)), 9, 9)
        for value in (*several(), 2, -1, True, False):
            if isinstance(value, bool) or value not in (0, 1):
                with self.assertRaises(UnknownName) as caught:
                    walk.state_of(bundle, value, 9)
                self.assertEqual(caught.exception.name, value)
        self.assertRaises(InvalidOperation, walk.state_of, bundle, 1, {0: 0, 1: 3})
        self.assertRaises(InvalidState, walk.state_of, bundle, 1, {0: 0, 1: 1})
        alike = Company(PAIR.people, PAIR.answers, takings=PAIR.takings, starts=("ann",), copies={"bob": Cutter("..-+")})
        self.assertEqual(walk.state_of(Bundle(alike, ("ann", None, True)), 0, {0: 1}), ("ann", 1, EMPTY))

    def test_more_than_five_marks(self):
        solo = Company(("a",), {("a", "a"): (ALL, True, ALL)})
        bundle = Bundle(solo, ("a", None, True), *(("a", mark, False) for mark in range(9)))
        walk = Walk(solo, Rule(Cutter("..")))
        colours = {mark: (0, 1, 2, 2, 1, 0, 2, 1, 0, 1)[mark] for mark in range(10)}
        self.assertEqual(walk.state_of(bundle, 9, colours), ("a", 1, ((0, 1), (0, 1), (2, 1, 0))))
        self.assertEqual(walk.state_of(bundle, 6, colours), ("a", 2, ((0, 1), (), (2, 1, 0))))
        self.assertEqual(walk.state_of(bundle, 5, colours), ("a", 0, ((0, 1, 2, 2, 1), (), ())))


if __name__ == "__main__":
    unittest.main()
