"""[0.7] and stage 2: what cutters are made of, what they keep, and their errors."""

import unittest
from itertools import product

from namedabove.base.cutters import MAX_PARTS, MAX_ROW, Cutter
from namedabove.errors import InvalidCutter, InvalidNumber, InvalidOperation, TooMany
from tests.plain_cutters import PARTS, PATTERNS, SOME_PARTS, kept_by_parts, plain_places
from tests.values import several

NO_PARTS = (
    "", "+", "-", "++", "+-+", ".", "+.", ".+", "...", "+...", "...+", "+...+", "....", "+..+..+", "....+", "+....",
    "+++..", "---..", "+-+..+", "..++++", "..----", "++..++++", "+++..+++", "+++..++++",
    "x..", "..x", "+x..", "..+x", "+..x+", "*..+", "0..1", "1..", "a..z", "+,+", "+..,", "all..", "..all", "+all", "all+",
    " ", " ..", ".. ", "+ ..", ".. +", " +..", "+.. ", "..+ ", "+. .", ". .", "+..\n", "\n..", "..+\n", "..\n", "\n",
    "All", "ALL", "al", "alll", " all", "all ", "all\n", "a ll", "all > all", "+.. > ..+", "none", "x" * 300, "+" * 300,
)


class Making(unittest.TestCase):
    def test_constants(self):
        self.assertEqual((MAX_PARTS, MAX_ROW), (4, 1000))

    def test_each_part(self):
        self.assertEqual(len(set(PARTS)), 106)
        for part in PARTS:
            for cutter in (Cutter(part), Cutter.of((part,))):
                self.assertIs(cutter.__class__, Cutter)
                self.assertEqual(cutter.parts, (part,))

    def test_up_to_four_parts(self):
        for many in range(5):
            parts = ("all", "+..", "..-+", "..")[:many]
            for cutter in (Cutter(*parts), Cutter.of(parts)):
                self.assertEqual(cutter.parts, parts)
                self.assertIs(cutter.parts.__class__, tuple)
                self.assertEqual(len(cutter), many)

    def test_more_parts(self):
        for many in (5, 6, 50):
            for part in ("all", "+.."):
                self.assertRaises(InvalidCutter, Cutter, *[part] * many)
                self.assertRaises(InvalidCutter, Cutter.of, (part,) * many)

    def test_strings_that_are_no_parts(self):
        for part in NO_PARTS:
            for parts in ((part,), ("all", part), (part, "all"), ("..", "..", "..", part)):
                with self.subTest(parts=parts):
                    self.assertRaises(InvalidCutter, Cutter, *parts)
                    self.assertRaises(InvalidCutter, Cutter.of, parts)

    def test_values_of_other_kinds_among_the_parts(self):
        for value in several():
            if not isinstance(value, str):
                for parts in ((value,), ("all", value), (value, "x"), ("all", "..", value, "..", ".."), ("..",) * 4 + (value,)):
                    with self.subTest(parts=parts):
                        self.assertRaises(InvalidCutter, Cutter, *parts)
                        self.assertRaises(InvalidCutter, Cutter.of, parts)

    def test_the_first_wrong_value_is_told(self):
        for parts, at in (((1, "all"), 0), (("all", "x", None), 1), (("..", "..", "", 4), 2), ((True, 0, 0, 0, 0), 0)):
            for made in (lambda: Cutter(*parts), lambda: Cutter.of(parts)):
                with self.assertRaises(InvalidCutter) as caught:
                    made()
                self.assertIn(f"at {at} ", str(caught.exception))
        for last in ("all", "x", None):
            with self.assertRaises(InvalidCutter) as caught:
                Cutter("all", "all", "all", "all", last)
            self.assertIn("more than 4", str(caught.exception))

    def test_of_takes_a_tuple_alone(self):
        for value in several():
            if not isinstance(value, tuple):
                with self.subTest(value=value):
                    self.assertRaises(InvalidCutter, Cutter.of, value)
        self.assertEqual(Cutter.of(()).parts, ())

    def test_a_failed_making_leaves_the_arguments(self):
        for value, again in zip(several(), several()):
            for made in (Cutter, Cutter.of):
                try:
                    made(value)
                except InvalidCutter:
                    pass
            self.assertEqual(value, again)


class Keeping(unittest.TestCase):
    def check_places(self, parts, many):
        cutter = Cutter(*parts)
        expected = plain_places(parts, many)
        self.assertEqual(cutter.places(many), expected, (parts, many))
        self.assertIs(cutter.places(many).__class__, tuple)
        row = tuple(f"value {at}" for at in range(many))
        self.assertEqual(cutter(row), kept_by_parts(parts, row), (parts, many))

    def test_each_part_for_short_and_long_rows(self):
        for part in PARTS:
            for many in (*range(14), 40, 999, 1000):
                self.check_places((part,), many)

    def test_no_parts(self):
        for many in (*range(14), 1000):
            self.check_places((), many)
            self.assertEqual(Cutter().places(many), tuple(range(many)))

    def test_two_parts(self):
        for parts in product(PARTS, SOME_PARTS):
            for many in (*range(9), 30):
                self.check_places(parts, many)

    def test_three_and_four_parts(self):
        for parts in product(SOME_PARTS, repeat=3):
            for many in (0, 3, 4, 5, 6, 11):
                self.check_places(parts, many)
        for parts in product(SOME_PARTS[::3], repeat=4):
            for many in (2, 5, 6, 7, 1000):
                self.check_places(parts, many)

    def test_all_lengths_up_to_a_thousand(self):
        for parts in ((), ("all", "all"), ("-+..+-+",), ("+-..-++", "..++"), ("++..+++", "-+..-+-")):
            for many in range(0, 1001, 9):
                self.check_places(parts, many)

    def test_places_written_out(self):
        for part, many, places in (
            ("+-..", 1, (0,)), ("-+..", 1, ()), ("..+", 1, (0,)), ("..+-", 1, ()), ("..+--", 2, ()), ("..-+-", 2, (0,)),
            ("-..+", 1, (0,)), ("+..-", 1, (0,)), ("-..-", 1, ()), ("+..-+", 2, (0, 1)), ("+-..---", 3, (0,)),
            ("-+..+--", 4, (1,)), ("-+..+--", 3, (0, 1)), ("-+..-+-", 3, (1,)), ("++..", 3, (0, 1)), ("..+++", 7, (4, 5, 6)),
            ("++..+++", 6, (0, 1, 3, 4, 5)), ("++..+++", 5, (0, 1, 2, 3, 4)), ("--..---", 5, ()), ("..", 9, ()),
            ("+-..-+-", 1000, (0, 998)), ("all", 3, (0, 1, 2)), ("all", 0, ()), ("++..+++", 0, ()),
        ):
            self.assertEqual(Cutter(part).places(many), places, (part, many))

    def test_values_are_kept_as_they_are(self):
        row = (True, [1], None, {"a": 2}, "x")
        found = Cutter("++..+-+")(row)
        self.assertEqual(found, (True, [1], None, "x"))
        self.assertIs(found[0], True)
        self.assertEqual(Cutter("+..")((7, 7, 7)), (7,))

    def test_rows_with_too_many_values(self):
        for parts in ((), ("all",), ("..+",), ("..",)):
            cutter = Cutter(*parts)
            self.assertEqual(cutter((5,) * 1000), (5,) * len(plain_places(parts, 1000)))
            self.assertEqual(cutter(()), ())
            for many in (1001, 1002, 5000):
                self.assertRaises(InvalidOperation, cutter, (5,) * many)

    def test_rows_that_are_no_tuples(self):
        for cutter in (Cutter(), Cutter("+..-+")):
            for value in several():
                if not isinstance(value, tuple):
                    with self.subTest(value=value):
                        self.assertRaises(InvalidOperation, cutter, value)

    def test_numbers_of_places(self):
        for parts in ((), ("..+",)):
            cutter = Cutter(*parts)
            self.assertEqual(cutter.places(0), ())
            self.assertEqual(cutter.places(1000), plain_places(parts, 1000))
            for value in (-1, -1000, 1001, 10**39, 1 - 10**40, True, False):
                with self.assertRaises(InvalidNumber) as caught:
                    cutter.places(value)
                self.assertEqual(caught.exception.value, value)
                self.assertIs(caught.exception.value.__class__, value.__class__)

    def test_numbers_of_other_kinds(self):
        for value, again in zip(several(), several()):
            if not isinstance(value, int):
                with self.subTest(value=value):
                    with self.assertRaises(InvalidNumber) as caught:
                        Cutter("..+").places(value)
                    self.assertEqual(caught.exception.value, again)
                    self.assertEqual(value, again)

    def test_keeps_all(self):
        self.assertIs(Cutter().keeps_all, True)
        for part in PATTERNS:
            self.assertIs(Cutter(part).keeps_all, False, part)
            self.assertIs(Cutter("all", part, "all").keeps_all, False, part)
        for many in range(5):
            self.assertIs(Cutter(*["all"] * many).keeps_all, True)


class Joining(unittest.TestCase):
    def test_first_the_one_then_the_other(self):
        for one in product(SOME_PARTS, SOME_PARTS[::2]):
            for other in ((), ("..+",), ("-+..+-+", "+..+")):
                joined = Cutter(*one) >> Cutter(*other)
                self.assertIs(joined.__class__, Cutter)
                self.assertEqual(joined.parts, one + other)
                for many in (0, 1, 3, 5, 6, 20):
                    self.assertEqual(joined.places(many), plain_places(one + other, many))

    def test_up_to_four_parts(self):
        for first, second in product(range(5), repeat=2):
            one, other = Cutter(*["all"] * first), Cutter(*["..+"] * second)
            if first + second <= 4:
                self.assertEqual(len(one >> other), first + second)
                continue
            with self.assertRaises(TooMany) as caught:
                one >> other
            self.assertEqual(caught.exception.limit, 4)
            self.assertEqual((len(one), len(other)), (first, second))

    def test_other_values(self):
        for cutter in (Cutter(), Cutter("..+", "..", "all", "+..")):
            for value in several():
                if not isinstance(value, Cutter):
                    with self.subTest(value=value), self.assertRaises(InvalidCutter):
                        cutter >> value

    def test_both_stay_as_they_are(self):
        one, other = Cutter("+..", "all"), Cutter("..+")
        one >> other
        self.assertEqual((one.parts, other.parts), (("+..", "all"), ("..+",)))
        one >>= other
        self.assertEqual((one.parts, other.parts), (("+..", "all", "..+"), ("..+",)))


class Telling(unittest.TestCase):
    def test_len_and_str(self):
        for parts, text in (
            ((), "all"), (("all",), "all"), (("..",), ".."), (("+-..",), "+-.."), (("all", "all"), "all > all"),
            (("+..", "..+"), "+.. > ..+"), (("+..-+", "all", "..", "-+..+-+"), "+..-+ > all > .. > -+..+-+"),
        ):
            self.assertEqual((len(Cutter(*parts)), str(Cutter(*parts))), (len(parts), text))

    def test_a_cutter_cannot_be_iterated(self):
        for cutter in (Cutter(), Cutter("all"), Cutter("+..", "..+")):
            self.assertRaises(TypeError, iter, cutter)
            self.assertRaises(TypeError, list, cutter)
            self.assertRaises(TypeError, lambda: "all" in cutter)
            self.assertRaises(TypeError, lambda: cutter[0])

    def test_a_cutter_never_changes(self):
        cutter = Cutter("+..", "..+")
        with self.assertRaises(AttributeError):
            cutter.parts = ("all",)
        with self.assertRaises(AttributeError):
            cutter.keeps_all = True
        for wrong in (cutter.places, cutter, cutter.is_within, cutter.parting, cutter.__rshift__):
            for value in several():
                try:
                    wrong(value)
                except (InvalidCutter, InvalidNumber, InvalidOperation):
                    pass
        self.assertEqual((cutter.parts, len(cutter), str(cutter)), (("+..", "..+"), 2, "+.. > ..+"))
        self.assertEqual((cutter.keeps_all, cutter.places(7)), (False, (0,)))

    def test_methods_stand_in_the_class_itself(self):
        for name in ("__init__", "of", "parts", "keeps_all", "__call__", "places", "__rshift__", "is_within", "parting",
                     "__len__", "__eq__", "__str__"):
            self.assertIn(name, vars(Cutter))
        self.assertEqual(Cutter.__module__, "namedabove.base.cutters")


if __name__ == "__main__":
    unittest.main()
