"""[0.8]: cutters that are alike, that are within others, and where they part."""

import unittest
from itertools import product

from namedabove.base.cutters import Cutter
from namedabove.errors import InvalidCutter
from tests.plain_cutters import PARTS, SOME_PARTS, plain_places
from tests.values import several

LENGTHS = (*range(10), 23, 1000)


class Told:
    """The parts of a cutter, the cutter, and the places that it must keep."""

    def __init__(self, parts):
        self.parts = parts
        self.cutter = Cutter(*parts)
        self.places = {many: plain_places(parts, many) for many in LENGTHS}
        self.kept = {many: frozenset(self.places[many]) for many in LENGTHS}


def plain_parting(one, other):
    for many in LENGTHS:
        differing = one.kept[many] ^ other.kept[many]
        if differing:
            return many, min(differing)
    return None


SINGLE = [Told(()), *(Told((part,)) for part in PARTS)]
SEVERAL = [Told(parts) for parts in product(SOME_PARTS, SOME_PARTS)] + [Told(("..", "..+", "all", "+.."))]


class Alike(unittest.TestCase):
    def check_pair(self, one, other):
        where = (one.parts, other.parts)
        parting = plain_parting(one, other)
        self.assertEqual(one.cutter.parting(other.cutter), parting, where)
        self.assertIs(one.cutter == other.cutter, parting is None, where)
        self.assertIs(one.cutter != other.cutter, parting is not None, where)
        within = all(one.kept[many] <= other.kept[many] for many in LENGTHS)
        self.assertIs(one.cutter.is_within(other.cutter), within, where)

    def test_all_single_parts(self):
        for one, other in product(SINGLE, SINGLE):
            self.check_pair(one, other)

    def test_cutters_of_two_parts(self):
        for one, other in product(SEVERAL, SEVERAL):
            self.check_pair(one, other)

    def test_cutters_of_one_and_of_two_parts(self):
        for one, other in product(SINGLE, SEVERAL):
            self.check_pair(one, other)
            self.check_pair(other, one)

    def test_six_places_tell_all(self):
        for one, other in product(SINGLE, SEVERAL):
            if all(one.kept[many] == other.kept[many] for many in range(7)):
                self.assertEqual(one.cutter, other.cutter)
                for many in (*range(7, 40), 500, 999, 1000):
                    self.assertEqual(one.cutter.places(many), other.cutter.places(many), (one.parts, other.parts, many))

    def test_parting_is_a_pair_of_integers(self):
        for one, other, expected in (
            (("++..+++",), ("all",), (6, 2)), (("..+",), ("..++",), (2, 0)), (("+..",), ("..+",), (2, 0)),
            (("-+..",), ("..",), (2, 1)), (("..+--",), ("..",), (3, 0)), (("..",), (), (1, 0)), (("+-..",), ("+..",), None),
            (("..+", "..+"), ("..+",), None), (("++..++",), ("++..+++",), (5, 2)), (("-+..+++",), ("++..+++",), (4, 0)),
            (("-+..",), ("-+..-+-",), (2, 0)), (("all", "all"), (), None),
        ):
            found = Cutter(*one).parting(Cutter(*other))
            self.assertEqual(found, expected, (one, other))
            self.assertEqual(Cutter(*other).parting(Cutter(*one)), expected, (one, other))
            self.assertIn(found.__class__, (tuple, None.__class__))

    def test_within_written_out(self):
        for one, other, there, back in (
            (("..+",), ("..++",), True, False), (("..",), ("..+",), True, False), (("+..",), ("..+",), False, False),
            (("++..+++",), ("all",), True, False), (("+-..",), ("+..",), True, True), ((), ("all",), True, True),
        ):
            self.assertIs(Cutter(*one).is_within(Cutter(*other)), there, (one, other))
            self.assertIs(Cutter(*other).is_within(Cutter(*one)), back, (one, other))

    def test_values_that_are_no_cutters(self):
        for parts in ((), ("all",), ("..+", "+..")):
            cutter = Cutter(*parts)
            for value in several():
                if isinstance(value, Cutter):
                    continue
                with self.subTest(value=value):
                    self.assertIs(cutter == value, False)
                    self.assertIs(value == cutter, False)
                    self.assertIs(cutter != value, True)
                    self.assertIs(value != cutter, True)
                    self.assertIs(cutter in [value], False)
                    self.assertRaises(InvalidCutter, cutter.is_within, value)
                    self.assertRaises(InvalidCutter, cutter.parting, value)

    def test_parts_and_texts_are_no_cutters(self):
        self.assertFalse(Cutter("..+") == "..+")
        self.assertFalse(Cutter("..+") == ("..+",))
        self.assertFalse(Cutter() == ())


if __name__ == "__main__":
    unittest.main()
