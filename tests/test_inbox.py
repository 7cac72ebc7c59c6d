"""[14.1] and stage 14: arrivals, and inboxes beside a record of the tests' own through drawn deeds."""

import unittest
from random import Random

from namedabove.base.companies import Company
from namedabove.base.cutters import Cutter
from namedabove.errors import (
    InvalidBundle, InvalidLetter, InvalidLot, InvalidNumber, InvalidOperation, InvalidRule, NothingToUndo, UnknownName,
)
from namedabove.live.inbox import Inbox, arrival, arrivals
from namedabove.read.lots import Lot, groups, shown, together
from namedabove.read.rules import Rule
from namedabove.talk.bundles import Bundle
from tests.plain_inbox import Record, chain_of, groups_of, moves_of, shown_of, some_arrival
from tests.plain_lots import some_lot
from tests.plain_talks import plain_copy, some_company, some_rule
from tests.values import several

ALL, LAST, TWO = Cutter("all"), Cutter("..+"), Cutter("..++")
PLAIN = Company(("ann", "bob"), {("ann", "bob"): (ALL, True, TWO), ("bob", "ann"): (ALL, True, TWO)}, starts=("ann",))
TALK = Bundle(PLAIN, ("ann", None, True), ("bob", 0, False), ("ann", 1, False), ("bob", 2, False), ("ann", 3, False))
WIDE, NARROW = Rule(ALL, sees_lost=True), Rule(LAST)
MARKS = 9


class Arrivals(unittest.TestCase):
    def test_lots_by_chance(self):
        chance = Random(140)
        for _ in range(60):
            company = some_company(chance)
            lot = some_lot(chance, None, company)
            letters = lot.bundle.letters
            told = tuple((mark, letters[mark][0], plain_copy(company, letters, mark)) for mark in lot.came)
            self.assertEqual(arrivals(lot), told)
            for mark in lot.came:
                self.assertEqual(arrival(lot.bundle, mark), told[lot.came.index(mark)])
            rule = some_rule(chance)
            inbox = Inbox.of(rule, arrivals(lot))
            self.assertEqual(inbox.groups, groups(rule, lot))
            self.assertEqual({mark: inbox.shown(mark) for mark in inbox}, shown(rule, lot))
            for first in lot.came:
                self.assertIs(inbox.are_together(first, lot.came[0]), together(rule, lot, first, lot.came[0]))

    def test_errors_in_their_order(self):
        for value in several():
            if not isinstance(value, Bundle):
                self.assertRaises(InvalidBundle, arrival, value, -1)
            if not (isinstance(value, int) and not isinstance(value, bool) and 0 <= value < 5):
                self.assertRaises(UnknownName, arrival, TALK, value)
            if not isinstance(value, Lot):
                self.assertRaises(InvalidLot, arrivals, value)


class Deeds(unittest.TestCase):
    def check(self, inbox, record):
        """Compare all that an inbox tells with a record."""
        rule, here = record.rule, record.arrivals
        self.assertEqual((inbox.rule, inbox.version), (rule, record.version))
        self.assertEqual((inbox.marks, tuple(inbox), len(inbox)), (tuple(sorted(here)), tuple(sorted(here)), len(here)))
        self.assertEqual(inbox.groups, groups_of(rule, here))
        self.assertEqual(str(inbox), f"inbox of {len(here)} letters, {len(inbox.groups)} groups")
        places = shown_of(rule, here)
        for mark in range(-1, MARKS + 1):
            self.assertIs(mark in inbox, mark in here)
            if mark not in here:
                continue
            self.assertEqual((inbox[mark], inbox.shown(mark)), (here[mark], places[mark]))
            self.assertEqual(inbox.below(mark), tuple(sorted(other for other in here if places[other] == mark)))
            self.assertEqual(inbox.moves(mark), moves_of(record, mark))
            for other in here:
                chain = chain_of(rule, here, mark, other)
                self.assertEqual(inbox.chain(mark, other), chain)
                self.assertIs(inbox.are_together(mark, other), chain is not None)
        self.assertEqual(inbox == Inbox(rule, *here.values()), True)

    def check_whole(self, inbox, record):
        """The same, also for all that was or will be."""
        self.check(inbox, record)
        inbox, record = inbox.twin(), record.copy()
        for _ in range(len(record.undone)):
            self.assertEqual(inbox.redo(), record.version + 1)
            record.redo(1)
        self.check(inbox, record)
        while record.version:
            inbox.undo()
            record.undo(1)
        self.check(inbox, record)
        self.assertRaises(NothingToUndo, inbox.undo)

    def deed(self, chance, inbox, record, rules):
        """Do something by chance with both."""
        word = chance.choice(("receive", "receive", "receive", "use", "assign", "undo", "redo", "wrong", "trial", "twin"))
        if word == "receive":
            told = [some_arrival(chance, MARKS) for _ in range(chance.choice((0, 1, 1, 2, 3)))]
            told += [record.arrivals[mark] for mark in chance.sample(sorted(record.arrivals), min(1, len(record.arrivals)))]
            marks = {}
            is_unlike = any(
                marks.setdefault(value[0], record.arrivals.get(value[0], value)) != value for value in told
            )
            if is_unlike:
                self.assertRaises(InvalidOperation, inbox.receive, *told)
            else:
                self.assertEqual(inbox.receive(*told), record.receive(*told))
        elif word == "use":
            rule = chance.choice(rules)
            record.become(rule, record.arrivals)
            self.assertEqual(inbox.use(rule), record.version)
        elif word == "assign":
            rule = chance.choice(rules)
            record.become(rule, record.arrivals)
            inbox.rule = rule
        elif word in ("undo", "redo"):
            many = chance.choice((0, 1, 1, 2, 3, 20))
            there = record.version if word == "undo" else len(record.undone)
            call = lambda: getattr(inbox, word)(many=many)
            if many > there:
                self.check_kept(call, NothingToUndo, "many", many)
            else:
                getattr(record, word)(many)
                self.assertEqual(call(), record.version)
        elif word == "wrong":
            wrong = chance.choice((None, (3, "ann", (3,)), (3, "Ann", ()), [0, "ann", ()], (3, "ann", (1, 1)), (-1, "ann", ())))
            good = [some_arrival(chance, MARKS) for _ in range(2)]
            self.assertRaises(InvalidLetter, inbox.receive, *chance.sample([*good, wrong], 3))
        elif word == "twin":
            twin, other = inbox.twin(), record.copy()
            for _ in range(3):
                self.deed(chance, twin, other, rules)
            self.check(twin, other)
        else:
            self.in_a_block(chance, inbox, record.copy(), rules)

    def in_a_block(self, chance, inbox, record, rules):
        def act(same):
            self.assertIs(same, inbox)
            for _ in range(chance.randrange(4)):
                self.deed(chance, same, record, rules)
            self.check(same, record)
            if chance.random() < 0.5:
                raise KeyError("out")
            return "told"
        try:
            if chance.random() < 0.5:
                self.assertEqual(inbox.attempt(act), "told")
            else:
                with inbox.trial() as same:
                    act(same)
        except KeyError as error:
            self.assertEqual(error.args, ("out",))

    def check_kept(self, call, error, attribute, value):
        with self.assertRaises(error) as caught:
            call()
        self.assertEqual(getattr(caught.exception, attribute), value)

    def test_drawn_deeds(self):
        moves = set()
        for seed in range(60):
            chance = Random(f"inbox {seed}")
            rules = [some_rule(chance) for _ in range(3)] + [WIDE, Rule(Cutter("all", "all"), sees_lost=True)]
            rule = chance.choice(rules)
            inbox, record = Inbox(rule), Record(rule)
            for _ in range(25):
                self.deed(chance, inbox, record, rules)
                self.check(inbox, record)
                moves |= {inbox.moves(mark) for mark in inbox}
            self.check_whole(inbox, record)
        self.assertTrue({0, 1, 2, 3} <= moves, moves)

    def test_the_order_of_coming_means_nothing(self):
        chance = Random(141)
        for _ in range(40):
            lot = some_lot(chance, 12)
            rule = some_rule(chance)
            told = list(arrivals(lot))
            one = Inbox.of(rule, tuple(told))
            chance.shuffle(told)
            other = Inbox(rule)
            for value in told:
                self.assertEqual((other.receive(value), other.receive(value, value)), (1, 0))
            self.assertTrue(one == other)
            self.assertEqual(one.groups, other.groups)
            self.assertEqual([one.shown(mark) for mark in one], [other.shown(mark) for mark in other])
            self.assertEqual((one.version, other.version), (1 if told else 0, len(told)))

    def test_letters_that_are_together_stay_so_and_places_only_move_on(self):
        chance = Random(142)
        for _ in range(40):
            lot = some_lot(chance, 12)
            rule = some_rule(chance)
            told = list(arrivals(lot))
            chance.shuffle(told)
            inbox = Inbox(rule)
            for value in told:
                before = inbox.twin()
                inbox.receive(value)
                for mark in before:
                    was, now = before.shown(mark), inbox.shown(mark)
                    self.assertTrue(was == now or now is not None and (was is None or was < now))
                    self.assertLessEqual(inbox.moves(mark), len(inbox[mark][2]))
                    self.assertTrue(all(inbox.are_together(mark, other) for other in before if before.are_together(mark, other)))


class Told(unittest.TestCase):
    def test_made_at_once_counts_as_one_deed(self):
        told = arrivals(Lot(TALK, (0, 2, 4)))
        for inbox in (Inbox(WIDE, *told), Inbox.of(WIDE, told)):
            self.assertEqual((inbox.version, inbox.undo(), inbox.marks, inbox.redo(), inbox.marks), (1, 0, (), 1, (0, 2, 4)))
        self.assertEqual(Inbox(WIDE).version, 0)
        self.assertEqual(Inbox.of(WIDE, ()).version, 0)

    def test_an_equal_rule_changes_nothing(self):
        inbox = Inbox(Rule(Cutter("all", "..+")), *arrivals(Lot(TALK, (0, 1))))
        inbox.undo()
        self.assertEqual((inbox.use(NARROW), str(inbox.rule)), (0, "rule all > ..+"))
        inbox.rule = NARROW
        self.assertEqual((inbox.version, inbox.redo()), (0, 1))
        self.assertEqual((inbox.use(NARROW.seeing()), inbox.use(NARROW.seeing())), (2, 2))
        self.assertRaises(NothingToUndo, inbox.redo)

    def test_moves(self):
        inbox = Inbox(Rule(ALL), (5, "ann", (1, 2, 4)))
        told = [inbox.moves(5)]
        for value in ((1, "bob", ()), (4, "bob", ()), (2, "bob", ())):
            inbox.receive(value)
            told.append((inbox.shown(5), inbox.moves(5)))
        self.assertEqual(told, [0, (1, 1), (4, 2), (4, 2)])
        self.assertEqual((inbox.use(Rule(Cutter("+.."))), inbox.shown(5), inbox.moves(5)), (5, 1, 3))
        self.assertEqual((inbox.undo(many=2), inbox.moves(5), inbox.redo(), inbox.moves(5)), (3, 2, 4, 2))
        self.assertEqual((inbox.redo(), inbox.moves(5), inbox.moves(1), inbox.moves(2)), (5, 3, 0, 0))
        self.assertEqual((inbox.undo(many=5), len(inbox), inbox.redo(many=2), inbox.moves(5)), (0, 0, 2, 1))

    def test_two_unlike_arrivals(self):
        inbox = Inbox(WIDE, (3, "ann", (1,)))
        for wrong in (((3, "bob", (1,)),), ((3, "ann", ()),), ((2, "ann", ()), (2, "bob", ())), ((4, "ann", ()), (3, "ann", (2,)))):
            self.assertRaises(InvalidOperation, inbox.receive, *wrong)
            self.assertEqual((inbox.marks, inbox.version), ((3,), 1))
        self.assertRaises(InvalidLetter, inbox.receive, (3, "bob", (1,)), None)
        self.assertRaises(InvalidLetter, inbox.receive, None, (3, "bob", (1,)))
        self.assertRaises(InvalidOperation, Inbox, WIDE, (0, "ann", ()), (0, "bob", ()))
        self.assertEqual(inbox.receive((4, "ann", ()), (3, "ann", (1,)), (4, "ann", ())), 1)

    def test_a_new_deed_forgets_what_was_taken_back(self):
        inbox = Inbox(WIDE, *arrivals(Lot(TALK, (0,))))
        inbox.receive(arrival(TALK, 1))
        inbox.undo()
        self.assertEqual(inbox.receive(arrival(TALK, 0)), 0)
        self.assertEqual(inbox.redo(), 2)
        inbox.undo()
        self.assertEqual(inbox.receive(arrival(TALK, 2)), 1)
        self.assertRaises(NothingToUndo, inbox.redo)
        self.assertEqual(inbox.redo(many=0), 2)

    def test_blocks_within_blocks(self):
        inbox = Inbox(WIDE, *arrivals(Lot(TALK, (0, 1))))
        inbox.receive(arrival(TALK, 2))
        inbox.undo()
        trial = inbox.trial()
        with trial as same:
            same.receive(arrival(TALK, 3))
            with trial as again:
                again.undo(many=2)
                self.assertEqual((again.marks, again.version), ((), 0))
            self.assertEqual((inbox.marks, inbox.version), ((0, 1, 3), 2))
            self.assertEqual(inbox.attempt(lambda told: (told.use(NARROW), told.undo(many=3), len(told))), (3, 0, 0))
            self.assertEqual((inbox.marks, inbox.rule), ((0, 1, 3), WIDE))
        self.assertEqual((inbox.marks, inbox.version, inbox.redo(), inbox.marks), ((0, 1), 1, 2, (0, 1, 2)))
        with trial:
            inbox.undo(many=2)
        self.assertEqual(inbox.marks, (0, 1, 2))

    def test_a_block_begins_when_it_is_entered(self):
        inbox = Inbox(WIDE)
        trial = inbox.trial()
        inbox.receive((0, "ann", ()))
        with trial as same:
            same.receive((1, "ann", ()))
        self.assertEqual(inbox.marks, (0,))

    def test_twins(self):
        inbox = Inbox(WIDE, *arrivals(Lot(TALK, (0, 3))))
        inbox.use(NARROW)
        inbox.undo()
        twin = inbox.twin()
        self.assertTrue(twin == inbox)
        self.assertEqual((twin.redo(), twin.rule, inbox.rule, inbox.version), (2, NARROW, WIDE, 1))
        inbox.receive(arrival(TALK, 1))
        self.assertEqual((twin.marks, twin.undo(many=2), twin.rule), ((0, 3), 0, WIDE))

    def test_equality(self):
        told = arrivals(Lot(TALK, (0, 3)))
        inbox = Inbox(WIDE, *told)
        self.assertIs(inbox == Inbox(Rule(Cutter("all", "all"), sees_lost=True), *told), True)
        for other in (Inbox(NARROW, *told), Inbox(WIDE, told[0]), Inbox(WIDE, told[0], (3, "ann", (1, 2))), *several(), WIDE):
            self.assertIs(inbox == other, False)
            self.assertIs(inbox != other, True)

    def test_in_and_iteration(self):
        inbox = Inbox(WIDE, (1, "ann", ()), (0, "bob", ()))
        for value in several():
            expected = isinstance(value, int) and not isinstance(value, bool) and value in (0, 1)
            self.assertIs(value in inbox, expected)
        self.assertEqual(list(inbox), [0, 1])

    def test_large_marks(self):
        large = 10**12 - 1
        inbox = Inbox(WIDE, (large, "ann", (0, large - 1)), (0, "ann", ()))
        self.assertEqual((inbox.shown(large), inbox.groups, inbox.below(0)), (0, ((0, large),), (large,)))


class Errors(unittest.TestCase):
    def check_kept(self, call, error, attribute, value):
        with self.assertRaises(error) as caught:
            call()
        self.assertEqual(getattr(caught.exception, attribute), value)

    def test_making(self):
        for value in several():
            if not isinstance(value, Rule):
                self.assertRaises(InvalidRule, Inbox, value, None)
                self.assertRaises(InvalidRule, Inbox.of, value, None)
                inbox = Inbox(WIDE)
                self.assertRaises(InvalidRule, inbox.use, value)
                self.assertRaises(InvalidRule, setattr, inbox, "rule", value)
                self.assertEqual(inbox.rule, WIDE)
            self.assertRaises(InvalidLetter, Inbox, WIDE, value)
            if value != ():
                self.assertRaises(InvalidLetter, Inbox.of, WIDE, value)

    def test_values_that_are_no_arrivals(self):
        inbox = Inbox(WIDE)
        good = (3, "ann", (0, 2))
        for at in range(3):
            for value in several():
                told = list(good)
                told[at] = value
                whole = isinstance(value, int) and not isinstance(value, bool)
                fits = (
                    (whole and value >= 3) if at == 0 else value in ("a", "ann", "all") if at == 1
                    else isinstance(value, tuple) and value in ((), (0,))
                )
                if not fits:
                    self.assertRaises(InvalidLetter, inbox.receive, tuple(told))
                    self.assertRaises(InvalidLetter, Inbox.of, WIDE, (good, tuple(told)))
        for copy in ((0, 0), (2, 0), (3,), (0, 3), [0, 2], (True,), (-1,), (None,), ("0",)):
            self.assertRaises(InvalidLetter, inbox.receive, (3, "ann", copy))
        for told in ([3, "ann", ()], (3, "ann"), (3, "ann", (), ())):
            self.assertRaises(InvalidLetter, inbox.receive, good, told)
        self.assertEqual((len(inbox), inbox.version), (0, 0))

    def test_marks(self):
        inbox = Inbox(WIDE, (0, "ann", ()), (1, "ann", ()))
        for value in several():
            if not (isinstance(value, int) and not isinstance(value, bool) and value in (0, 1)):
                for call in (
                    lambda: inbox[value], lambda: inbox.shown(value), lambda: inbox.below(value), lambda: inbox.moves(value),
                    lambda: inbox.are_together(value, None), lambda: inbox.are_together(0, value),
                    lambda: inbox.chain(value, None), lambda: inbox.chain(0, value),
                ):
                    self.check_kept(call, UnknownName, "name", value)

    def test_numbers_of_deeds(self):
        inbox = Inbox(WIDE, (0, "ann", ()))
        for value in several():
            whole = isinstance(value, int) and not isinstance(value, bool) and value >= 0
            for call in (lambda: inbox.undo(many=value), lambda: inbox.redo(many=value)):
                if not whole:
                    self.check_kept(call, InvalidNumber, "value", value)
                elif value > 1:
                    self.check_kept(call, NothingToUndo, "many", value)
        self.assertEqual((inbox.version, inbox.undo(), inbox.version), (1, 0, 0))

    def test_nothing_gives_access_to_what_is_kept(self):
        told = [(0, "ann", ())]
        inbox = Inbox.of(WIDE, tuple(told))
        told.append((1, "ann", ()))
        for value in (inbox.marks, inbox.groups, inbox[0]):
            self.assertIs(value.__class__, tuple)
        self.assertEqual(inbox.marks, (0,))

    def test_methods_stand_in_the_class_itself(self):
        for name in (
            "of receive rule marks groups version use __getitem__ shown below are_together chain moves undo redo trial attempt "
            "twin __len__ __contains__ __iter__ __eq__ __str__"
        ).split():
            self.assertIn(name, vars(Inbox))
        for part in (arrival, arrivals, Inbox):
            self.assertEqual(part.__module__, "namedabove.live.inbox")


if __name__ == "__main__":
    unittest.main()
