"""[0.9], [0.10], [0.12] and stage 4: bundles, their lists, ways and talks, and their errors."""

import unittest
from random import Random

from namedabove.base.companies import Company
from namedabove.base.cutters import Cutter
from namedabove.errors import InvalidBundle, InvalidCompany, InvalidOperation, UnknownName
from namedabove.talk.bundles import MAX_LETTERS, Bundle
from tests.plain_talks import (
    plain_copy, plain_list, plain_talk, plain_way, possible_letters, some_company, some_letters,
)
from tests.values import several

ALL, LAST, TWO = Cutter("all"), Cutter("..+"), Cutter("..++")
TURN = (ALL, True, TWO)
PAIR = ("ann", "bob")
COMPANY = Company(
    PAIR, {("ann", "bob"): TURN, ("bob", "ann"): TURN}, takings={("bob", "ann"): (ALL, True, LAST)}, starts=("ann",),
)
SOLO = Company(("a",), {("a", "a"): (ALL, True, ALL)})
ROW = (("ann", None, True), ("bob", 0, False), ("ann", 1, False), ("bob", 2, False), ("ann", 3, True), ("bob", 1 - 1, False))


def talk():
    return Bundle(COMPANY, *ROW)


def long_row(many):
    """So many letters of one way."""
    return (("a", None, True), *(("a", mark, False) for mark in range(many - 1)))


def told(bundle):
    marks = range(len(bundle))
    return (
        bundle.company, bundle.letters, list(bundle), str(bundle), bundle.talks(),
        [(bundle.list_of(mark), bundle.copy_of(mark), bundle.way_of(mark), bundle.talk_of(mark)) for mark in marks],
    )


class Making(unittest.TestCase):
    def test_constant(self):
        self.assertEqual(MAX_LETTERS, 40)

    def test_no_letters(self):
        for bundle in (Bundle(COMPANY), Bundle.of(COMPANY, ())):
            self.assertEqual((bundle.letters, len(bundle), list(bundle), bundle.talks()), ((), 0, [], ()))
            self.assertEqual(str(bundle), "bundle of 0 letters, 0 talks")

    def test_letters_upon_none(self):
        self.assertEqual(Bundle(COMPANY, ("ann", None, True)).letters, (("ann", None, True),))
        self.assertEqual(len(Bundle(COMPANY, ("ann", None, True), ("ann", None, True))), 2)
        for letter in (("bob", None, True), ("ann", None, False), ("bob", None, False), ("eve", None, True)):
            for letters in ((letter,), (ROW[0], letter)):
                self.assertRaises(InvalidBundle, Bundle, COMPANY, *letters)
                self.assertRaises(InvalidBundle, Bundle.of, COMPANY, letters)
        self.assertRaises(InvalidBundle, Bundle, COMPANY.with_starts(()), ("ann", None, True))

    def test_answers_and_takings_with_and_without_a_turn(self):
        ahead = ROW[:2]
        for letter, right in (
            (("bob", 0, False), True), (("bob", 0, True), False), (("ann", 0, False), False), (("ann", 0, True), False),
            (("ann", 1, False), True), (("ann", 1, True), True), (("bob", 1, False), False), (("bob", 1, True), False),
            (("eve", 1, False), False), (("", 1, True), False),
        ):
            if right:
                self.assertEqual(Bundle(COMPANY, *ahead, letter).letters, (*ahead, letter))
                self.assertEqual(Bundle.of(COMPANY, (*ahead, letter)), Bundle(COMPANY, *ahead) + letter)
            else:
                self.assertRaises(InvalidBundle, Bundle, COMPANY, *ahead, letter)
                self.assertRaises(InvalidBundle, Bundle.of, COMPANY, (*ahead, letter))
                self.assertRaises(InvalidBundle, lambda: Bundle(COMPANY, *ahead) + letter)

    def test_marks_of_other_letters(self):
        for upon in (1, 2, 3, 39, 40, -1, -2, True, False, "0", "", (), (0,), [0], 10**12, ALL, {0: 0}, 10**39):
            self.assertRaises(InvalidBundle, Bundle, COMPANY, ROW[0], ("bob", upon, False), ("ann", 1, False))
        self.assertRaises(InvalidBundle, Bundle, COMPANY, ("bob", 0, False), ("ann", None, True))

    def test_values_that_are_no_letters(self):
        wrong = [
            (), ("ann",), ("ann", None), ("ann", None, True, True), ["ann", None, True], {"ann": None}, "ann", ("ann", None, 1),
            ("ann", None, 0), ("ann", None, None), ("ann", None, "True"), (None, None, True), (0, None, True),
            (("ann",), None, True), (["ann"], None, True), ("ann", None, (True,)), ("Ann", None, True), (ALL, None, True),
        ]
        for value in (*wrong, *several()):
            with self.subTest(value=value):
                for letters in ((value,), (ROW[0], value), (value, ROW[0]), (ROW[0], ROW[1], value, value)):
                    self.assertRaises(InvalidBundle, Bundle, COMPANY, *letters)
                    self.assertRaises(InvalidBundle, Bundle.of, COMPANY, letters)
                self.assertRaises(InvalidBundle, lambda: Bundle(COMPANY) + value)
                self.assertRaises(InvalidBundle, lambda: talk() + value)

    def test_of_takes_a_tuple_alone(self):
        for value in several():
            if value != ():
                self.assertRaises(InvalidBundle, Bundle.of, COMPANY, value)
        self.assertRaises(InvalidBundle, Bundle.of, COMPANY, list(ROW))

    def test_the_company_comes_first(self):
        for value in several():
            if not isinstance(value, Company):
                self.assertRaises(InvalidCompany, Bundle, value)
                self.assertRaises(InvalidCompany, Bundle, value, 3, None)
                self.assertRaises(InvalidCompany, Bundle.of, value, ())
                self.assertRaises(InvalidCompany, Bundle.of, value, value)

    def test_forty_and_forty_one_letters(self):
        forty = long_row(40)
        for bundle in (
            Bundle(SOLO, *forty), Bundle.of(SOLO, forty), Bundle(SOLO, *forty[:39]) + forty[39],
            Bundle(SOLO, *forty[:39]).answered(38, "a"),
        ):
            self.assertEqual((bundle.letters, len(bundle)), (forty, 40))
            self.assertRaises(InvalidBundle, lambda: bundle + ("a", 39, False))
            self.assertRaises(InvalidBundle, lambda: bundle + ("a", None, True))
            self.assertRaises(InvalidBundle, bundle.answered, 39, "a")
        for many in (41, 42, 100):
            self.assertRaises(InvalidBundle, Bundle, SOLO, *long_row(many))
            self.assertRaises(InvalidBundle, Bundle.of, SOLO, long_row(many))
        takes = SOLO.with_taking("a", "a", TURN)
        self.assertEqual(len(Bundle(takes, *forty[:39]).taken(38, "a")), 40)
        self.assertRaises(InvalidBundle, Bundle(takes, *forty).taken, 39, "a")

    def test_bundles_with_more_letters_than_forty(self):
        long = Bundle.of_many(SOLO, long_row(1000))
        self.assertEqual((len(long), long.letters, str(long)), (1000, long_row(1000), "bundle of 1000 letters, 1 talks"))
        self.assertEqual(long.list_of(999), tuple(range(999)))
        self.assertEqual(long.copy_of(999), tuple(range(999)))
        self.assertEqual(long.way_of(998), tuple(range(998)))
        self.assertEqual((long.talk_of(999), long.parting(30, 999), long[41]), (0, 30, ("a", 40, False)))
        self.assertEqual(long.ways((0, 49)), (Bundle.of_many(SOLO, long_row(50)), tuple(range(50))))
        self.assertEqual(long.ways((3,))[0], Bundle(SOLO, *long_row(4)))
        self.assertRaises(InvalidBundle, lambda: long + ("a", 5, False))
        self.assertRaises(InvalidBundle, long.answered, 5, "a")
        self.assertRaises(InvalidBundle, long.taken, 5, "a")
        self.assertRaises(UnknownName, long.answered, 1000, "a")
        cutting = SOLO.with_answer("a", "a", (Cutter("++..+++"), True, ALL)).with_copy("a", LAST)
        long = Bundle.of_many(cutting, long_row(1000))
        self.assertEqual((long.list_of(999), long.copy_of(999)), ((0, 1, 995, 996, 997, 998), (998,)))


class Telling(unittest.TestCase):
    def check_bundle(self, company, letters, bundle):
        self.assertEqual(bundle.letters, letters)
        self.assertEqual(bundle.company, company)
        self.assertEqual([letter for letter in bundle], list(letters))
        for mark in range(len(letters)):
            self.assertEqual(bundle[mark], letters[mark])
            self.assertEqual(bundle.list_of(mark), plain_list(company, letters, mark))
            self.assertEqual(bundle.copy_of(mark), plain_copy(company, letters, mark))
            self.assertEqual(bundle.way_of(mark), tuple(plain_way(letters, mark)))
            self.assertEqual(bundle.talk_of(mark), plain_talk(letters, mark))
            for told_tuple in (bundle.list_of(mark), bundle.copy_of(mark), bundle.way_of(mark)):
                self.assertIs(told_tuple.__class__, tuple)
        first = tuple(sorted({plain_talk(letters, mark) for mark in range(len(letters))}))
        self.assertEqual(bundle.talks(), first)
        self.assertEqual(str(bundle), f"bundle of {len(letters)} letters, {len(first)} talks")

    def test_bundles_by_chance(self):
        chance = Random(4)
        for at in range(250):
            company = some_company(chance)
            letters = some_letters(chance, company, chance.choice((3, 8, 15, 40)))
            self.check_bundle(company, letters, Bundle(company, *letters) if at % 2 else Bundle.of(company, letters))

    def test_a_letter_more(self):
        chance = Random(5)
        for _ in range(60):
            company = some_company(chance)
            letters = some_letters(chance, company, 6)
            bundle = Bundle(company, *letters)
            before = told(bundle)
            for letter in possible_letters(company, letters):
                self.check_bundle(company, (*letters, letter), bundle + letter)
                writer, upon, begins = letter
                if upon is not None:
                    more = bundle.taken(upon, writer) if begins else bundle.answered(upon, writer)
                    self.assertEqual(more, bundle + letter)
            self.assertEqual(told(bundle), before)

    def test_bundles_that_grow_letter_by_letter(self):
        chance = Random(6)
        for _ in range(25):
            company = some_company(chance)
            letters = some_letters(chance, company, 40)
            one = two = Bundle(company)
            grown = [one]
            for letter in letters:
                writer, upon, begins = letter
                one = one + letter
                if upon is None:
                    two = two + letter
                else:
                    two = two.taken(upon, writer) if begins else two.answered(upon, writer)
                grown.append(one)
            self.assertEqual(told(one), told(Bundle.of(company, letters)))
            self.assertEqual(told(two), told(one))
            self.check_bundle(company, letters, one)
            # What a letter was added to is as it was, also when two letters were added to it.
            for many in range(0, len(letters) + 1, 7):
                self.assertEqual(told(grown[many]), told(Bundle(company, *letters[:many])))
                for letter in possible_letters(company, letters[:many])[:2]:
                    if many < 40:
                        self.check_bundle(company, (*letters[:many], letter), grown[many] + letter)
            self.assertEqual(told(grown[-1]), told(one))

    def test_letters_that_are_refused_behind_grown_bundles(self):
        grown = Bundle(SOLO)
        for letter in long_row(40):
            grown = grown + letter
        part, marks = grown.ways((38,))
        self.assertEqual((len(part), marks), (39, tuple(range(39))))
        full = part + ("a", 3, False)
        for bundle in (grown, full, grown.ways((39,))[0]):
            for letter in (("a", None, True), ("a", 0, False), None):
                self.assertRaises(InvalidBundle, lambda: bundle + letter)
            self.assertRaises(InvalidBundle, bundle.answered, 0, "a")
            self.assertRaises(InvalidBundle, bundle.taken, 0, "a")
        for letter in (("b", None, True), ("a", 39, False), ("a", 0, True), ("a", True, False), None, ("a", None, False), part):
            self.assertRaises(InvalidBundle, lambda: part + letter)
        self.assertEqual((len(full), len(part), full.way_of(39), full.talk_of(39)), (40, 39, (0, 1, 2, 3), 0))
        self.assertRaises(InvalidBundle, Bundle, SOLO, part)

    def test_what_is_added_is_looked_at_alone(self):
        grown = Bundle(COMPANY, *ROW)
        looked = []
        turn = Company.turn
        try:
            Company.turn = lambda self, *told, **more: (looked.append(told), turn(self, *told, **more))[1]
            more = grown.answered(1, "ann").taken(3, "ann") + ("ann", None, True)
            self.assertLessEqual(len(looked), 4)
            looked.clear()
            self.assertEqual([more.way_of(7), more.talk_of(7), more.list_of(7), more.copy_of(7)], [(0, 1, 2, 3), 7, (3,), (3,)])
            self.assertEqual(looked, [])
        finally:
            Company.turn = turn

    def test_roads_cut_first_and_cutters_last(self):
        row = long_row(9)
        for turn, expected in (
            ((Cutter("++.."), True, ALL), (0, 1, 7)), ((ALL, True, Cutter("++..")), (0, 1)), ((ALL, False, ALL), ()),
            ((Cutter("..+"), True, Cutter("+..")), (0,)), ((Cutter(".."), True, ALL), (7,)), ((ALL, True, Cutter("..+-")), ()), ((ALL, True, Cutter("..++")), (6, 7)),
            ((Cutter("-+.."), True, ALL), (7,)), ((Cutter("+..+"), True, ALL), (0, 6, 7)), ((ALL, True, Cutter("+..++")), (0, 6, 7)),
        ):
            self.assertEqual(Bundle(SOLO.with_answer("a", "a", turn), *row).list_of(8), expected, turn)

    def test_talks_that_were_taken_over(self):
        bundle = talk()
        self.assertEqual([bundle.talk_of(mark) for mark in range(6)], [0, 0, 0, 0, 4, 0])
        self.assertEqual([bundle.list_of(mark) for mark in range(6)], [(), (0,), (0, 1), (1, 2), (3,), (0,)])
        self.assertEqual((bundle.talks(), str(bundle)), ((0, 4), "bundle of 6 letters, 2 talks"))
        more = bundle.answered(4, "bob").taken(6, "ann").answered(7, "bob")
        self.assertEqual([more.talk_of(mark) for mark in (6, 7, 8)], [4, 7, 7])
        self.assertEqual((more.way_of(8), more.list_of(8)), ((0, 1, 2, 3, 4, 6, 7), (6, 7)))

    def test_marks_that_are_none(self):
        bundle = talk()
        for value in (*several(), 6, -1, 39, 40, True, False):
            if isinstance(value, int) and not isinstance(value, bool) and 0 <= value < 6:
                continue
            for call in (
                lambda: bundle[value], lambda: bundle.list_of(value), lambda: bundle.copy_of(value),
                lambda: bundle.way_of(value), lambda: bundle.talk_of(value), lambda: bundle.answered(value, "eve"),
                lambda: bundle.taken(value, 3), lambda: bundle.parting(value, 77), lambda: bundle.parting(5, value),
                lambda: bundle.answered(value, value),
            ):
                with self.assertRaises(UnknownName) as caught:
                    call()
                self.assertEqual(caught.exception.name, value)
                self.assertIs(caught.exception.name.__class__, value.__class__)

    def test_order_of_errors_of_answered_and_taken(self):
        full = Bundle(SOLO, *long_row(40))
        for bundle, writer in ((talk(), "bob"), (full, "a")):
            for call in (bundle.answered, bundle.taken):
                for value in several():
                    if value != writer and value not in bundle.company.people:
                        with self.assertRaises(UnknownName) as caught:
                            call(1, value)
                        self.assertEqual(caught.exception.name, value)
                with self.assertRaises(UnknownName) as caught:
                    call(-1, "eve")
                self.assertEqual(caught.exception.name, -1)
                self.assertRaises(InvalidBundle, call, 1, writer)

    def test_parting(self):
        bundle = talk()
        for first, second, expected in (
            (2, 4, 2), (4, 2, 2), (3, 3, 3), (5, 4, 0), (4, 5, 0), (5, 1, 0), (0, 5, 0), (0, 0, 0), (5, 5, 5), (1, 2, 1),
        ):
            self.assertEqual(bundle.parting(first, second), expected, (first, second))
        two = talk() + ("ann", None, True) + ("bob", 6, False)
        for first, second in ((0, 6), (6, 4), (7, 3), (5, 7)):
            self.assertIsNone(two.parting(first, second))
        self.assertEqual((two.parting(6, 7), two.parting(7, 7)), (6, 7))

    def test_parting_by_chance(self):
        chance = Random(6)
        for _ in range(60):
            company = some_company(chance, takings=0.4)
            letters = some_letters(chance, company, 12)
            bundle = Bundle(company, *letters)
            for first in range(len(letters)):
                for second in range(len(letters)):
                    shared = {*plain_way(letters, first), first} & {*plain_way(letters, second), second}
                    self.assertEqual(bundle.parting(first, second), max(shared) if shared else None)


class Ways(unittest.TestCase):
    def check_ways(self, company, letters, marks):
        bundle = Bundle(company, *letters)
        old = sorted({above for mark in marks for above in (*plain_way(letters, mark), mark)})
        expected = tuple(
            (letters[mark][0], None if letters[mark][1] is None else old.index(letters[mark][1]), letters[mark][2])
            for mark in old
        )
        part, told_marks = bundle.ways(marks)
        self.assertEqual(told_marks, tuple(old))
        self.assertEqual(part, Bundle(company, *expected))
        self.assertEqual(part.letters, expected)
        for at, mark in enumerate(old):
            self.assertEqual(part.list_of(at), tuple(old.index(above) for above in bundle.list_of(mark)))

    def test_ways_of_none_one_some_and_all(self):
        for marks in ((), (0,), (1,), (4,), (5,), (1, 2), (1, 5), (3, 5), (0, 4), (0, 1, 2, 3, 4, 5)):
            self.check_ways(COMPANY, ROW, marks)
        part, marks = talk().ways(())
        self.assertEqual((part, marks), (Bundle(COMPANY), ()))
        part, marks = talk().ways((5,))
        self.assertEqual((part.letters, marks), ((("ann", None, True), ("bob", 0, False)), (0, 5)))

    def test_ways_by_chance(self):
        chance = Random(7)
        for _ in range(150):
            company = some_company(chance)
            letters = some_letters(chance, company, 14)
            marks = tuple(mark for mark in range(len(letters)) if chance.random() < chance.choice((0.1, 0.3)))
            self.check_ways(company, letters, marks)

    def test_marks_that_are_none(self):
        bundle = talk()
        for value in (
            (6,), (0, 6), (-1,), (-1, 0), (1, 0), (0, 0), (True,), (0, True), (False,), ("0",), (0, "1"), (None,), (0, None),
            [0], {0: 1}, 0, None, "01", ((0,),), ([0],), (0, 1, 1), (5, 4), (0, ALL), (10**39,),
        ):
            with self.subTest(value=value):
                self.assertRaises(InvalidOperation, bundle.ways, value)
        for value in several():
            if value not in ((), (0,)):
                self.assertRaises(InvalidOperation, bundle.ways, value)
        self.assertRaises(InvalidOperation, Bundle(COMPANY).ways, (0,))


class Whole(unittest.TestCase):
    def test_len_and_iteration(self):
        bundle = talk()
        self.assertEqual(len(bundle), 6)
        self.assertEqual([*bundle], list(ROW))
        self.assertIs(("bob", 0, False) in bundle, True)
        for value in several():
            self.assertIs(value in bundle, False)

    def test_equal(self):
        bundle = talk()
        alike = COMPANY.with_copy("ann", Cutter("all", "all"))
        self.assertIs(bundle == Bundle(alike, *ROW), True)
        self.assertIs(bundle != Bundle(alike, *ROW), False)
        for other in (
            Bundle(COMPANY, *ROW[:5]), Bundle(COMPANY), Bundle(COMPANY, *ROW[:5], ("bob", 2, False)),
            Bundle(COMPANY.with_copy("ann", LAST), *ROW), Bundle(COMPANY.with_starts(PAIR), *ROW), bundle + ROW[5],
            Bundle(COMPANY, *ROW[:4], ("ann", 3, False), ROW[5]),
        ):
            self.assertIs(bundle == other, False)
            self.assertIs(bundle != other, True)
        for value in several():
            self.assertIs(bundle == value, False)
            self.assertIs(value == bundle, False)
            self.assertIs(bundle != value, True)
        self.assertIs(bundle == ROW, False)

    def test_a_bundle_never_changes(self):
        bundle = talk()
        before = told(talk())
        for name in ("company", "letters"):
            with self.assertRaises(AttributeError):
                setattr(bundle, name, ())
        with self.assertRaises(TypeError):
            bundle[0] = ROW[0]
        changed = bundle
        changed += ("bob", 4, False)
        self.assertEqual((len(changed), told(bundle)), (7, before))

    def test_arguments_stay_as_they_are(self):
        for value, again in zip(several(), several()):
            for call in (
                lambda: Bundle(COMPANY, value), lambda: talk() + value, lambda: talk().ways(value), lambda: talk()[value],
                lambda: talk().parting(value, value), lambda: talk().answered(0, value),
            ):
                try:
                    call()
                except (InvalidBundle, InvalidOperation, UnknownName):
                    pass
            self.assertEqual(value, again)

    def test_methods_stand_in_the_class_itself(self):
        for name in (
            "__init__", "of", "company", "letters", "__getitem__", "list_of", "copy_of", "way_of", "talk_of", "__add__",
            "answered", "taken", "ways", "talks", "parting", "__len__", "__iter__", "__eq__", "__str__",
        ):
            self.assertIn(name, vars(Bundle))
        self.assertEqual(Bundle.__module__, "namedabove.talk.bundles")


if __name__ == "__main__":
    unittest.main()
