"""[0.14], [0.15] and stage 6: lots, who is together in them, and their errors."""

import unittest
from random import Random

from namedabove.base.companies import Company
from namedabove.base.cutters import Cutter
from namedabove.errors import InvalidBundle, InvalidLot, InvalidRule, UnknownName
from namedabove.read.lots import (
    Lot, chain, colours, groups, is_chain, is_colouring, neighbours, row_of_losses, shown, together,
)
from namedabove.read.rules import Rule
from namedabove.talk.bundles import Bundle
from tests.plain_lots import (
    is_plain_chain, is_plain_colouring, plain_group, plain_neighbours, plain_row_of_losses, plain_shown, some_lot,
)
from tests.plain_talks import some_rule
from tests.values import several

ALL, LAST, TWO, NONE = Cutter("all"), Cutter("..+"), Cutter("..++"), Cutter("..")
SOLO = Company(("a",), {("a", "a"): (ALL, True, TWO)})
ROW = (("a", None, True), *(("a", mark, False) for mark in range(6)), ("a", 3, False))
WIDE, NARROW = Rule(ALL, sees_lost=True), Rule(LAST)


def lot_of(*came):
    return Lot(Bundle(SOLO, *ROW), came)


def told(lot):
    return (lot.bundle, lot.came, lot.lost, len(lot), str(lot), [mark in lot for mark in range(len(lot.bundle))])


def long_lot(many, came):
    """A lot of a way of so many letters whose lists have the marks of all letters above."""
    keeps = Company(("a",), {("a", "a"): (ALL, True, ALL)})
    letters = (("a", None, True), *(("a", mark, False) for mark in range(many - 1)))
    return Lot(Bundle.of_many(keeps, letters), came)


class Making(unittest.TestCase):
    def test_what_came_and_what_is_lost(self):
        for came in ((), (0,), (7,), (0, 3, 4), (1, 2, 5, 6, 7), tuple(range(8))):
            lot = lot_of(*came)
            lost = tuple(mark for mark in range(8) if mark not in came)
            self.assertEqual((lot.bundle, lot.came, lot.lost), (Bundle(SOLO, *ROW), came, lost))
            self.assertEqual((len(lot), str(lot)), (len(lost), f"lot of 8 letters, {len(lost)} lost"))
            self.assertEqual((lot.came.__class__, lot.lost.__class__), (tuple, tuple))
        self.assertEqual(str(Lot(Bundle(SOLO), ())), "lot of 0 letters, 0 lost")

    def test_errors(self):
        bundle = Bundle(SOLO, *ROW)
        for value in several():
            if not isinstance(value, Bundle):
                self.assertRaises(InvalidBundle, Lot, value, ())
                self.assertRaises(InvalidBundle, Lot, value, value)
            if value not in ((), (0,)):
                self.assertRaises(InvalidLot, Lot, bundle, value)
        for came in (
            (1, 0), (0, 0), (2, 1, 3), (8,), (0, 8), (-1,), (-1, 0), (True,), (0, True), (False, 1), ("0",), (None,), (0, None),
            [0], {0: 1}, "0", 0, ((0,),), ([0],), (0, 10**39), (0, ALL),
        ):
            with self.subTest(came=came):
                self.assertRaises(InvalidLot, Lot, bundle, came)
        self.assertRaises(InvalidLot, Lot, Bundle(SOLO), (0,))

    def test_with_come_and_with_lost(self):
        lot = lot_of(0, 3, 4)
        before = told(lot)
        for mark in range(8):
            self.assertEqual(lot.with_come(mark), lot_of(*sorted({0, 3, 4, mark})))
            self.assertEqual(lot.with_lost(mark), lot_of(*sorted({0, 3, 4} - {mark})))
            self.assertEqual(lot.with_come(mark).came, tuple(sorted({0, 3, 4, mark})))
        self.assertEqual(told(lot), before)
        for value in (*several(), 8, -1, True, False):
            if isinstance(value, int) and not isinstance(value, bool) and 0 <= value < 8:
                continue
            for call in (lot.with_come, lot.with_lost):
                with self.assertRaises(UnknownName) as caught:
                    call(value)
                self.assertEqual(caught.exception.name, value)
                self.assertIs(caught.exception.name.__class__, value.__class__)

    def test_in(self):
        lot = lot_of(0, 1, 4)
        for value in (*several(), *range(9), -1, True, False):
            right = isinstance(value, int) and not isinstance(value, bool) and value in (0, 1, 4)
            self.assertIs(value in lot, right, value)

    def test_equal(self):
        lot = lot_of(0, 3)
        self.assertIs(lot == lot_of(0, 3), True)
        self.assertIs(lot != lot_of(0, 3), False)
        alike = Company(("a",), {("a", "a"): (Cutter(), True, Cutter("..-++"))})
        self.assertEqual(lot, Lot(Bundle(alike, *ROW), (0, 3)))
        for other in (
            lot_of(0), lot_of(0, 3, 4), lot_of(0, 4), Lot(Bundle(SOLO, *ROW[:7]), (0, 3)),
            Lot(Bundle(SOLO.with_copy("a", LAST), *ROW), (0, 3)), *several(),
        ):
            self.assertIs(lot == other, False)
            self.assertIs(other == lot, False)
            self.assertIs(lot != other, True)

    def test_a_lot_never_changes(self):
        lot = lot_of(0, 3)
        for name in ("bundle", "came", "lost"):
            with self.assertRaises(AttributeError):
                setattr(lot, name, ())
        self.assertRaises(TypeError, iter, lot)
        self.assertRaises(TypeError, lambda: lot[0])

    def test_methods_stand_in_the_class_itself(self):
        for name in (
            "__init__", "bundle", "came", "lost", "with_come", "with_lost", "__contains__", "__len__", "__eq__", "__str__",
        ):
            self.assertIn(name, vars(Lot))
        for part in (Lot, groups, together, neighbours, chain, is_chain, colours, is_colouring, shown, row_of_losses):
            self.assertEqual(part.__module__, "namedabove.read.lots")


class Together(unittest.TestCase):
    def check_lot(self, rule, lot):
        near = plain_neighbours(rule, lot)
        expected = sorted({tuple(sorted(plain_group(rule, lot, mark))) for mark in lot.came})
        self.assertEqual(groups(rule, lot), tuple(expected))
        self.assertEqual(shown(rule, lot), plain_shown(rule, lot))
        self.assertEqual(list(shown(rule, lot)), list(lot.came))
        for first in lot.came:
            self.assertEqual(neighbours(rule, lot, first), tuple(sorted(near[first])))
            for second in lot.came:
                self.check_pair(rule, lot, first, second, any({first, second} <= set(group) for group in expected))

    def check_pair(self, rule, lot, first, second, are_together):
        self.assertIs(together(rule, lot, first, second), are_together)
        row, told_colours = chain(rule, lot, first, second), colours(rule, lot, first, second)
        self.assertIs(row is None, not are_together)
        self.assertIs(told_colours is None, are_together)
        if are_together:
            self.assertTrue(is_plain_chain(rule, lot, first, second, row), row)
            self.assertIs(is_chain(rule, lot, first, second, row), True)
        else:
            self.assertTrue(is_plain_colouring(rule, lot, first, second, told_colours), told_colours)
            self.assertEqual(list(told_colours), sorted(told_colours))
            self.assertIs(is_colouring(rule, lot, first, second, told_colours), True)

    def test_lots_by_chance(self):
        chance = Random(10)
        for _ in range(130):
            lot, rule = some_lot(chance), some_rule(chance)
            self.check_lot(rule.seeing(), lot)
            self.check_lot(rule.blind(), lot)

    def test_lots_without_letters(self):
        for lot in (Lot(Bundle(SOLO), ()), lot_of()):
            for rule in (WIDE, NARROW):
                self.assertEqual((groups(rule, lot), shown(rule, lot)), ((), {}))

    def test_a_lost_mark_is_seen_or_not(self):
        lot = lot_of(0, 3, 4, 7)
        self.assertEqual(groups(Rule(ALL), lot), ((0,), (3, 4, 7)))
        self.assertEqual(groups(WIDE, lot), ((0,), (3, 4, 7)))
        self.assertEqual((groups(Rule(ALL), lot_of(4, 7)), groups(WIDE, lot_of(4, 7))), (((4,), (7,)), ((4, 7),)))
        self.assertEqual((neighbours(Rule(ALL), lot_of(3, 4, 7), 4), neighbours(WIDE, lot_of(3, 4, 7), 4)), ((3,), (3, 7)))
        self.assertEqual(colours(WIDE, lot_of(0, 6), 6, 0), {0: 1, 1: 1, 2: 1, 3: 1, 4: 0, 5: 0, 6: 0, 7: 1})

    def test_more_losses_bring_nobody_together(self):
        chance = Random(11)
        for _ in range(80):
            lot, rule = some_lot(chance, 8), some_rule(chance)
            for mark in lot.came:
                less = lot.with_lost(mark)
                for group in groups(rule, less):
                    self.assertTrue(any(set(group) <= set(more) for more in groups(rule, lot)))

    def test_a_rule_that_binds_more_or_sees_lost_marks_parts_less(self):
        chance = Random(12)
        for _ in range(80):
            lot, one, other = some_lot(chance, 8), some_rule(chance), some_rule(chance)
            for wider in (one.seeing(), Rule(ALL, sees_lost=one.sees_lost), *([other] if one.is_within(other) else [])):
                for group in groups(one, lot):
                    self.assertTrue(any(set(group) <= set(more) for more in groups(wider, lot)))

    def test_long_bundles(self):
        lot = long_lot(1000, tuple(range(0, 1000, 2)))
        for rule in (WIDE, Rule(ALL)):
            self.assertEqual(groups(rule, lot), (lot.came,))
            self.assertEqual(chain(rule, lot, 0, 998), (0, 998))
            self.assertIs(is_chain(rule, lot, 0, 998, lot.came), True)
        self.assertEqual(groups(NARROW, lot), tuple((mark,) for mark in lot.came))
        self.assertEqual(groups(NARROW, long_lot(1000, tuple(range(1000)))), (tuple(range(1000)),))
        self.assertEqual(len(chain(NARROW, long_lot(1000, tuple(range(1000))), 0, 999)), 1000)
        self.assertEqual(row_of_losses(long_lot(1000, (0, 999)), 999), 998)


class Judges(unittest.TestCase):
    def test_all_rows_of_few_letters(self):
        chance = Random(13)
        for _ in range(25):
            lot, rule = some_lot(chance, 5), some_rule(chance)
            rows = [()]
            for _ in range(4):
                rows += [(*row, mark) for row in rows for mark in range(len(lot.bundle))]
            for first in lot.came[:2]:
                for second in lot.came[-2:]:
                    for row in set(rows):
                        right = is_plain_chain(rule, lot, first, second, row)
                        self.assertIs(is_chain(rule, lot, first, second, row), right, (first, second, row))

    def test_all_colours_of_few_letters(self):
        chance = Random(14)
        for _ in range(60):
            lot, rule = some_lot(chance, 5), some_rule(chance)
            rows = [{}]
            for mark in range(len(lot.bundle)):
                rows += [{**row, mark: colour} for row in rows for colour in (0, 1)]
            for first in lot.came[:2]:
                for second in lot.came[-2:]:
                    found = [row for row in rows if is_plain_colouring(rule, lot, first, second, row)]
                    self.assertIs(bool(found), not together(rule, lot, first, second))
                    for row in rows:
                        self.assertIs(is_colouring(rule, lot, first, second, row), row in found)
                    for row in found:
                        back = {mark: row[mark] for mark in reversed(sorted(row))}
                        self.assertIs(is_colouring(rule, lot, first, second, back), True)

    def test_chains_spoilt_in_one_place(self):
        lot = lot_of(0, 1, 2, 4, 5, 6)
        self.assertIs(is_chain(WIDE, lot, 0, 6, (0, 2, 4, 6)), True)
        self.assertIs(is_chain(WIDE, lot, 0, 6, (0, 1, 2, 4, 5, 6)), True)
        self.assertIs(is_chain(WIDE, lot, 4, 4, (4,)), True)
        for value in (
            (0, 2, 4), (2, 4, 6), (0, 4, 6), (0, 2, 3, 6), (0, 2, 4, 7, 6), (0, 2, 4, 2, 4, 6), (0, 0, 2, 4, 6), (6, 4, 2, 0),
            [0, 2, 4, 6], (0, 2, 4, 6, 6), (0, True, 2, 4, 6), (False, 2, 4, 6), (0, "2", 4, 6), (0, None, 4, 6), (), None,
            (0, 2, 4, 5, -1, 6), (0, 2, 4, 10**39, 6), (0, (2,), 4, 6), (0, [2], 4, 6), {0: 2, 4: 6}, "0246", 0, (0, 2, 4, 8, 6),
        ):
            self.assertIs(is_chain(WIDE, lot, 0, 6, value), False, value)
        for value in ((), (4, 4), (4, 5, 4), None, 4, [4], (True,)):
            self.assertIs(is_chain(WIDE, lot, 4, 4, value), False, value)
        for value in several():
            for rule in (WIDE, NARROW):
                self.assertIs(is_chain(rule, lot, 4, 6, value), False)
                if value != (0,):
                    self.assertIs(is_chain(rule, lot, 0, 0, value), False)

    def test_colours_spoilt_in_one_place(self):
        lot = lot_of(0, 3, 4, 7)
        seen, blind = {0: 0, 1: 1, 2: 1, 3: 1, 4: 1, 5: 0, 6: 1, 7: 1}, {0: 0, 3: 1, 4: 1, 7: 1}
        for rule, right in ((WIDE, seen), (Rule(ALL), blind)):
            self.assertIs(is_colouring(rule, lot, 0, 4, right), True)
            for mark in right:
                for value in ({**right, mark: True}, {**right, mark: 2}, {**right, mark: None}, {**right, mark: "0"}):
                    self.assertIs(is_colouring(rule, lot, 0, 4, value), False, value)
                less = {other: right[other] for other in right if other != mark}
                self.assertIs(is_colouring(rule, lot, 0, 4, less), False)
                if mark == 1:
                    self.assertIs(is_colouring(rule, lot, 0, 4, {**less, True: right[mark]}), False)
                if mark == 0:
                    self.assertIs(is_colouring(rule, lot, 0, 4, {**less, False: right[mark]}), False)
                other = {**right, mark: 1 - right[mark]}
                self.assertIs(is_colouring(rule, lot, 0, 4, other), mark in (5, 6), (rule, mark))
            for key in (8, -1, "0", None, (0,), True):
                less = {mark: right[mark] for mark in right if mark != 7}
                self.assertIs(is_colouring(rule, lot, 0, 4, {**less, key: 1}), False)
                self.assertIs(is_colouring(rule, lot, 0, 4, {**right, key: 1}), key == 1 and rule == WIDE, key)
            for value in (tuple(right.items()), list(right), None, [right], ({},), {}):
                self.assertIs(is_colouring(rule, lot, 0, 4, value), False)
            self.assertIs(is_colouring(rule, lot, 4, 0, right), False)
            self.assertIs(is_colouring(rule, lot, 0, 0, right), False)
            for value in several():
                self.assertIs(is_colouring(rule, lot, 0, 4, value), False)
        self.assertIs(is_colouring(Rule(ALL), lot, 0, 4, seen), False)
        self.assertIs(is_colouring(WIDE, lot, 0, 4, blind), False)


class Shown(unittest.TestCase):
    def test_the_last_bound_mark_that_came(self):
        self.assertEqual(shown(Rule(ALL), lot_of(0, 2, 3, 6, 7)), {0: None, 2: 0, 3: 2, 6: None, 7: 3})
        self.assertEqual(shown(WIDE, lot_of(0, 2, 3, 6, 7)), {0: None, 2: 0, 3: 2, 6: None, 7: 3})
        self.assertEqual(shown(NARROW, lot_of(0, 2, 3, 6, 7)), {0: None, 2: None, 3: 2, 6: None, 7: 3})
        self.assertEqual(shown(Rule(NONE), lot_of(0, 1)), {0: None, 1: None})

    def test_what_is_told_can_be_changed(self):
        lot = lot_of(0, 2)
        shown(WIDE, lot).clear()
        colours(NARROW, lot, 0, 2)[0] = 7
        self.assertEqual((shown(WIDE, lot), colours(NARROW, lot, 0, 2)), ({0: None, 2: 0}, {0: 0, 2: 1}))

    def test_rows_of_losses(self):
        lot = lot_of(0, 3, 6)
        self.assertEqual([row_of_losses(lot, mark) for mark in range(8)], [0, 0, 1, 2, 2, 2, 2, 2])
        self.assertEqual([row_of_losses(lot_of(), mark) for mark in range(8)], [0, 1, 2, 3, 4, 5, 6, 4])
        self.assertEqual([row_of_losses(lot_of(*range(8)), mark) for mark in range(8)], [0] * 8)
        chance = Random(15)
        for _ in range(100):
            lot = some_lot(chance)
            for mark in range(len(lot.bundle)):
                self.assertEqual(row_of_losses(lot, mark), plain_row_of_losses(lot, mark))


class Errors(unittest.TestCase):
    def calls(self, rule, lot, first, second):
        """All calls that take a rule and a lot, with how many marks each takes."""
        return (
            (0, lambda: groups(rule, lot)), (0, lambda: shown(rule, lot)), (1, lambda: neighbours(rule, lot, first)),
            (2, lambda: together(rule, lot, first, second)), (2, lambda: chain(rule, lot, first, second)),
            (2, lambda: is_chain(rule, lot, first, second, 3)), (2, lambda: colours(rule, lot, first, second)),
            (2, lambda: is_colouring(rule, lot, first, second, 3)),
        )

    def test_order_of_errors(self):
        lot = lot_of(0, 3)
        for value in several():
            if not isinstance(value, Rule):
                for _, call in self.calls(value, None, 9, 9):
                    self.assertRaises(InvalidRule, call)
            if not isinstance(value, Lot):
                for _, call in self.calls(WIDE, value, 9, 9):
                    self.assertRaises(InvalidLot, call)
                self.assertRaises(InvalidLot, row_of_losses, value, 9)

    def check_unknown(self, call, value):
        with self.assertRaises(UnknownName) as caught:
            call()
        self.assertEqual(caught.exception.name, value)
        self.assertIs(caught.exception.name.__class__, value.__class__)

    def test_marks_of_letters_that_did_not_come(self):
        lot = lot_of(0, 3)
        for value in (*several(), 1, 2, 7, 8, -1, True, False):
            if isinstance(value, bool) or value not in (0, 3):
                for many, call in self.calls(WIDE, lot, value, 99):
                    if many:
                        self.check_unknown(call, value)
                for many, call in self.calls(NARROW, lot, 3, value):
                    if many == 2:
                        self.check_unknown(call, value)
        for value in (*several(), 8, -1, True, False):
            if isinstance(value, bool) or value not in range(8):
                self.check_unknown(lambda: row_of_losses(lot, value), value)
        self.assertEqual([row_of_losses(lot, mark) for mark in (1, 2, 7)], [0, 1, 2])


if __name__ == "__main__":
    unittest.main()
