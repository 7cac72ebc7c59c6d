"""[0.11] and stage 3: companies, what they tell, what they are changed to, and their errors."""

import unittest
from random import Random

from namedabove.base.companies import MAX_PEOPLE, Company
from namedabove.base.cutters import Cutter
from namedabove.errors import InvalidCompany, InvalidCutter, InvalidOperation, UnknownName
from tests.plain_talks import possible_letters, some_company
from tests.values import nested, several

ALL, LAST, TWO, NONE = Cutter("all"), Cutter("..+"), Cutter("..++"), Cutter("..")
TURN = (ALL, True, TWO)
OTHER = (LAST, False, ALL)
ABC = ("ann", "bob", "cyd")


def trio():
    return Company(
        ABC, {("bob", "ann"): TURN, ("ann", "bob"): OTHER, ("ann", "ann"): TURN},
        takings={("cyd", "bob"): TURN}, starts=("ann", "cyd"), copies={"bob": LAST},
    )


def told(company):
    """All that a company tells."""
    return (
        company.people, company.answers, company.takings, company.starts, company.copies, str(company), len(company),
        list(company), company.writers(),
    )


class Making(unittest.TestCase):
    def test_constant(self):
        self.assertEqual(MAX_PEOPLE, 4)

    def test_one_to_four_people(self):
        for people in (("a",), ("a", "b"), ("a", "b", "c"), ("a", "ab", "abc", "abcdefgh")):
            company = Company(people, {})
            self.assertEqual((company.people, list(company), len(company)), (people, list(people), len(people)))
            self.assertIs(company.people.__class__, tuple)

    def test_people_that_are_none(self):
        for people in (
            (), ("a", "b", "c", "d", "e"), ("b", "a"), ("a", "a"), ("a", "b", "b"), ("a", "c", "b"), ["a"], {"a": 1}, "a",
            ("A",), ("",), ("a", ""), ("a", 1), (1,), (None,), ("a", True), ("abcdefghi",), ("a b",), ("ann", "ann1"),
            (("a",),), (["a"],), ({},), (ALL,), "ann", None, 0, True,
        ):
            with self.subTest(people=people):
                self.assertRaises(InvalidCompany, Company, people, {})
                self.assertRaises(InvalidCompany, Company, people, {}, starts=())

    def test_what_is_not_told(self):
        company = Company(("ann", "bob"), {("ann", "bob"): TURN})
        self.assertEqual((company.takings, company.starts), ({}, ("ann", "bob")))
        self.assertEqual(company.copies, {"ann": Cutter(), "bob": Cutter()})
        self.assertEqual([company.copies[person].parts for person in ABC[:2]], [(), ()])
        self.assertEqual(company, Company(("ann", "bob"), {("ann", "bob"): TURN}, takings=None, starts=None, copies=None))
        self.assertEqual(company, Company(("ann", "bob"), {("ann", "bob"): TURN}, takings={}, starts=ABC[:2], copies={}))

    def test_answers_and_takings_that_are_none(self):
        wrong = [
            [], (), 0, False, "x", ALL, ((("ann", "bob"), TURN),), {"ann": TURN}, {("ann",): TURN}, {("ann", "bob", "ann"): TURN},
            {("ann", "eve"): TURN}, {("eve", "ann"): TURN}, {"annbob": TURN}, {("ann", 1): TURN}, {None: TURN}, {0: TURN},
            {(): TURN}, {("ann", ("bob",)): TURN}, {("ann", "bob"): TURN, ("bob", "cyd"): TURN},
        ]
        wrong += [{("ann", "bob"): TURN, ("bob", "bob"): turn} for turn in (
            None, (), (ALL, True), (ALL, True, TWO, TWO), [ALL, True, TWO], (True, ALL, TWO), (ALL, 1, TWO), (ALL, 0, TWO),
            (ALL, None, TWO), ("all", True, TWO), (ALL, True, "..++"), (None, True, TWO), (ALL, True, None), TWO, "all",
            (ALL, "True", TWO), (ALL, True, (TWO,)), {0: ALL, 1: True, 2: TWO}, True, 3,
        )]
        for value in wrong:
            with self.subTest(value=value):
                self.assertRaises(InvalidCompany, Company, ABC[:2], value)
                self.assertRaises(InvalidCompany, Company, ABC[:2], {}, takings=value)
        self.assertRaises(InvalidCompany, Company, ABC[:2], None)
        for value in several():
            if value != {}:
                self.assertRaises(InvalidCompany, Company, ABC[:2], value)
                if value is not None:
                    self.assertRaises(InvalidCompany, Company, ABC[:2], {}, takings=value)
            for turn in ((value, True, ALL), (ALL, value, ALL), (ALL, True, value)):
                if not isinstance(value, (Cutter, bool)):
                    self.assertRaises(InvalidCompany, Company, ABC[:2], {("ann", "ann"): turn})

    def test_starts_that_are_none(self):
        for value in several():
            if value is not None and value not in ((), ("ann",)):
                with self.subTest(value=value):
                    self.assertRaises(InvalidCompany, Company, ("ann", "bob"), {}, starts=value)
        for value in (("bob", "ann"), ("ann", "ann"), ("cyd",), ("ann", "cyd"), ["ann"], "ann", ("ann", None), (True,), False):
            self.assertRaises(InvalidCompany, Company, ("ann", "bob"), {}, starts=value)
        for value in ((), ("ann",), ("bob",), ("ann", "bob")):
            self.assertEqual(Company(("ann", "bob"), {}, starts=value).starts, value)

    def test_copies_that_are_none(self):
        for value in (
            [], (), 0, False, "ann", {"cyd": ALL}, {"ann": ALL, "eve": ALL}, {"ann": "all"}, {"ann": None}, {"ann": TURN},
            {0: ALL}, {None: ALL}, {("ann",): ALL}, {True: ALL}, (("ann", ALL),), {"ann": ALL, "bob": ["all"]}, ALL,
        ):
            with self.subTest(value=value):
                self.assertRaises(InvalidCompany, Company, ("ann", "bob"), {}, copies=value)

    def test_several_wrong_arguments(self):
        self.assertRaises(InvalidCompany, Company, (), None, takings=3, starts=4, copies=5)
        self.assertRaises(InvalidCompany, Company, ("ann",), {}, takings={}, starts=("bob",), copies=5)

    def test_dicts_in_other_orders(self):
        answers = {("ann", "ann"): TURN, ("ann", "bob"): OTHER, ("bob", "ann"): TURN}
        backwards = {pair: answers[pair] for pair in reversed(list(answers))}
        one = Company(ABC, answers, takings=answers, copies={"ann": LAST, "cyd": TWO})
        other = Company(ABC, backwards, takings=backwards, copies={"cyd": TWO, "ann": LAST})
        self.assertEqual(one, other)
        for company in (one, other):
            self.assertEqual(list(company.answers), list(answers))
            self.assertEqual(list(company.takings), list(answers))
            self.assertEqual(list(company.copies), list(ABC))
        self.assertEqual(list(trio().with_answer("ann", "ann", OTHER).answers), list(answers))
        self.assertEqual(list(trio().renamed({"ann": "z", "bob": "a", "cyd": "m"}).answers), [("a", "z"), ("z", "a"), ("z", "z")])
        self.assertEqual(list(trio().renamed({"ann": "z", "bob": "a", "cyd": "m"}).copies), ["a", "m", "z"])


class Keeping(unittest.TestCase):
    def test_what_was_passed_and_then_changed(self):
        answers, takings, copies = {("ann", "bob"): TURN}, {("bob", "bob"): TURN}, {"ann": LAST}
        company = Company(("ann", "bob"), answers, takings=takings, copies=copies)
        before = told(company)
        answers["ann", "bob"] = OTHER
        takings.clear()
        copies["bob"] = NONE
        self.assertEqual(told(company), before)
        names = {"ann": "x", "bob": "y"}
        new = company.renamed(names)
        before = told(new)
        names["ann"] = "z"
        self.assertEqual(told(new), before)

    def test_what_was_told_and_then_changed(self):
        company = trio()
        before = told(trio())
        for name in ("answers", "takings", "copies"):
            getattr(company, name).clear()
            getattr(company, name)["ann", "bob"] = 3
            self.assertEqual(told(company), before)

    def test_properties_cannot_be_assigned(self):
        for name in ("people", "answers", "takings", "starts", "copies"):
            with self.assertRaises(AttributeError):
                setattr(trio(), name, ())

    def test_arguments_stay_as_they_are(self):
        for value, again in zip(several(), several()):
            for call in (
                lambda: Company(value, value), lambda: Company(("ann",), {}, takings=value), lambda: trio().part(value),
                lambda: trio().renamed(value), lambda: trio().with_starts(value), lambda: trio().with_copy("ann", value),
            ):
                try:
                    call()
                except (InvalidCompany, InvalidOperation, InvalidCutter):
                    pass
            self.assertEqual(value, again)


class Asking(unittest.TestCase):
    def test_turn(self):
        company = trio()
        for one in ABC:
            for other in ABC:
                self.assertEqual(company.turn(one, other), company.answers.get((one, other)))
                self.assertEqual(company.turn(one, other, takes=False), company.answers.get((one, other)))
                self.assertEqual(company.turn(one, other, takes=True), company.takings.get((one, other)))
        self.assertIsNone(company.turn("cyd", "bob"))
        self.assertEqual(company.turn("cyd", "bob", takes=True), TURN)

    def test_copy(self):
        self.assertEqual([trio().copy(person) for person in ABC], [ALL, LAST, ALL])

    def test_order_of_errors(self):
        company = trio()
        for value in several():
            if value == "ann":
                continue
            for call in (
                lambda: company.turn(value, "eve", takes=3), lambda: company.turn("ann", value, takes=None),
                lambda: company.copy(value), lambda: company.with_answer(value, "eve", 3),
                lambda: company.with_answer("bob", value, 3), lambda: company.with_taking(value, 3, ()),
                lambda: company.with_taking("bob", value, ()), lambda: company.with_copy(value, 3),
            ):
                with self.assertRaises(UnknownName) as caught:
                    call()
                self.assertEqual(caught.exception.name, value)
                self.assertIs(caught.exception.name.__class__, value.__class__)
            if not isinstance(value, bool):
                self.assertRaises(InvalidOperation, company.turn, "ann", "bob", takes=value)
            if value is not None:
                self.assertRaises(InvalidOperation, company.with_answer, "ann", "bob", value)
                self.assertRaises(InvalidOperation, company.with_taking, "ann", "bob", value)
            if not isinstance(value, Cutter):
                self.assertRaises(InvalidCutter, company.with_copy, "ann", value)
            if value != ():
                self.assertRaises(InvalidOperation, company.with_starts, value)
            for call in (company.part, company.is_closed):
                self.assertRaises(InvalidOperation, call, value)
        with self.assertRaises(UnknownName) as caught:
            company.turn("eve", "fay")
        self.assertEqual(caught.exception.name, "eve")

    def test_groups_that_are_none(self):
        for value in ((), ("bob", "ann"), ("ann", "ann"), ("eve",), ("ann", "eve"), ["ann"], "ann", None, ("ann", 1), {"ann": 1}):
            self.assertRaises(InvalidOperation, trio().part, value)
            self.assertRaises(InvalidOperation, trio().is_closed, value)
        for value in (("bob", "ann"), ("ann", "ann"), ("eve",), ["ann"], "ann", None, ("ann", True)):
            self.assertRaises(InvalidOperation, trio().with_starts, value)

    def test_in_iteration_len_and_str(self):
        company = trio()
        for value in several():
            self.assertIs(value in company, value == "ann", value)
        for person in ABC:
            self.assertIs(person in company, True)
        self.assertIs("dan" in company, False)
        self.assertEqual([person for person in company], list(ABC))
        self.assertEqual((len(company), str(company)), (3, "company of 3 people, 3 answers, 1 takings"))
        self.assertEqual(str(Company(("a",), {})), "company of 1 people, 0 answers, 0 takings")
        self.assertRaises(TypeError, lambda: company["ann"])

    def test_writers(self):
        for starts, answers, takings, expected in (
            ((), {("ann", "bob"): TURN}, {}, ()),
            (("ann",), {("ann", "bob"): TURN}, {}, ("ann", "bob")),
            (("cyd",), {("ann", "bob"): TURN}, {}, ("cyd",)),
            (("cyd",), {("cyd", "bob"): TURN}, {("bob", "ann"): TURN}, ABC),
            (("bob",), {("ann", "bob"): TURN, ("cyd", "ann"): TURN}, {("bob", "bob"): TURN}, ("bob",)),
            (ABC, {}, {}, ABC),
            (("ann",), {("cyd", "ann"): TURN}, {("ann", "cyd"): TURN}, ("ann", "cyd")),
        ):
            self.assertEqual(Company(ABC, answers, takings=takings, starts=starts).writers(), expected)

    def test_writers_are_those_who_write_in_bundles(self):
        chance = Random(3)
        for _ in range(150):
            company = some_company(chance, answers=0.3, takings=0.1)
            letters = []
            for _ in range(len(company)):
                letters += [letter for letter in possible_letters(company, letters) if letter not in letters]
            self.assertEqual(company.writers(), tuple(sorted({letter[0] for letter in letters})))

    def test_is_closed(self):
        company = trio()
        for people, expected in (
            (("ann",), False), (("bob",), False), (("cyd",), False), (("ann", "bob"), True), (("ann", "cyd"), False),
            (("bob", "cyd"), False), (ABC, True),
        ):
            self.assertIs(company.is_closed(people), expected, people)
        lonely = Company(ABC, {("ann", "ann"): TURN}, takings={("bob", "cyd"): TURN}, starts=())
        for people, expected in ((("ann",), True), (("bob",), False), (("cyd",), True), (("bob", "cyd"), True)):
            self.assertIs(lonely.is_closed(people), expected, people)


class Changing(unittest.TestCase):
    def check_changed(self, new, **changed):
        """All is as in the trio but what is told here, and the trio is as it was."""
        old = trio()
        for name in ("people", "answers", "takings", "starts", "copies"):
            self.assertEqual(getattr(new, name), changed.get(name, getattr(old, name)), name)
        self.assertIs(new.__class__, Company)

    def test_with_answer_and_with_taking(self):
        company = trio()
        before = told(company)
        for one in ABC:
            for other in ABC:
                for turn in (TURN, OTHER, None):
                    for name, make in (("answers", company.with_answer), ("takings", company.with_taking)):
                        turns = getattr(company, name)
                        turns.pop((one, other), None)
                        if turn is not None:
                            turns[one, other] = turn
                        new = make(one, other, turn)
                        self.check_changed(new, **{name: turns})
                        self.assertEqual(list(getattr(new, name)), sorted(turns))
        self.assertEqual(told(company), before)

    def test_with_copy(self):
        company = trio()
        before = told(company)
        for person in ABC:
            for cutter in (ALL, LAST, NONE):
                self.check_changed(company.with_copy(person, cutter), copies={**company.copies, person: cutter})
        self.assertEqual(told(company), before)

    def test_with_starts(self):
        company = trio()
        before = told(company)
        for starts in ((), ("bob",), ("ann", "cyd"), ABC):
            self.check_changed(company.with_starts(starts), starts=starts)
        self.assertEqual(told(company), before)

    def test_part(self):
        company = trio()
        before = told(company)
        self.assertEqual(company.part(ABC), company)
        for people in (("ann",), ("bob",), ("cyd",), ("ann", "bob"), ("ann", "cyd"), ("bob", "cyd")):
            self.check_changed(
                company.part(people), people=people,
                answers={pair: turn for pair, turn in company.answers.items() if set(pair) <= set(people)},
                takings={pair: turn for pair, turn in company.takings.items() if set(pair) <= set(people)},
                starts=tuple(person for person in company.starts if person in people),
                copies={person: company.copies[person] for person in people},
            )
        self.assertEqual(told(company), before)

    def test_renamed(self):
        company = trio()
        before = told(company)
        self.assertEqual(company.renamed({"cyd": "cyd", "ann": "ann", "bob": "bob"}), company)
        new = company.renamed({"ann": "zoe", "bob": "ann", "cyd": "m"})
        self.check_changed(
            new, people=("ann", "m", "zoe"), answers={("ann", "zoe"): TURN, ("zoe", "ann"): OTHER, ("zoe", "zoe"): TURN},
            takings={("m", "ann"): TURN}, starts=("m", "zoe"), copies={"ann": LAST, "m": ALL, "zoe": ALL},
        )
        self.assertEqual(new.renamed({"zoe": "ann", "ann": "bob", "m": "cyd"}), company)
        self.assertEqual(told(company), before)

    def test_renamings_that_are_none(self):
        right = {"ann": "a", "bob": "b", "cyd": "c"}
        for names in (
            {"ann": "a", "bob": "b"}, {**right, "dan": "d"}, {**right, "cyd": "a"}, {"ann": "a", "bob": "b", "eve": "c"},
            {**right, "ann": "A"}, {**right, "ann": ""}, {**right, "ann": 1}, {**right, "ann": None}, {**right, "ann": ["a"]},
            {**right, "ann": ("a",)}, {**right, "ann": {}}, {**right, "ann": "abcdefghi"}, {**right, "ann": True},
            {**right, "ann": ALL}, {"ann": "a", "bob": "b", 0: "c"}, [("ann", "a"), ("bob", "b"), ("cyd", "c")], ABC,
            {0: "a", 1: "b", 2: "c"}, {**right, ("ann",): "d"},
        ):
            with self.subTest(names=names):
                self.assertRaises(InvalidOperation, trio().renamed, names)
        for value in several():
            self.assertRaises(InvalidOperation, trio().renamed, value)
            if not (isinstance(value, str) and value in ("a", "ann", "all")):
                self.assertRaises(InvalidOperation, trio().renamed, {**right, "ann": value})


class Equal(unittest.TestCase):
    def test_each_part_counts(self):
        company = trio()
        self.assertEqual(company, trio())
        for other in (
            company.with_answer("ann", "ann", None), company.with_answer("ann", "ann", OTHER),
            company.with_answer("cyd", "cyd", TURN), company.with_taking("cyd", "bob", None),
            company.with_taking("cyd", "cyd", TURN), company.with_starts(ABC), company.with_starts(()),
            company.with_copy("bob", ALL), company.with_copy("ann", LAST), company.part(("ann", "bob")),
            company.renamed({"ann": "ann", "bob": "bob", "cyd": "dan"}),
            company.with_answer("ann", "ann", (ALL, False, TWO)), company.with_answer("ann", "ann", (LAST, True, TWO)),
        ):
            self.assertIs(company == other, False)
            self.assertIs(other == company, False)
            self.assertIs(company != other, True)
        self.assertIs(company != trio(), False)

    def test_cutters_that_are_alike_by_other_parts(self):
        one = Company(("a",), {("a", "a"): (ALL, True, LAST)}, copies={"a": Cutter("+..")})
        other = Company(("a",), {("a", "a"): (Cutter(), True, Cutter("..-+"))}, copies={"a": Cutter("all", "+-..", "all")})
        self.assertIs(one == other, True)
        self.assertIs(one != other, False)
        self.assertEqual(Company(("a",), {}), Company(("a",), {}, copies={"a": Cutter("all", "all")}))

    def test_other_values(self):
        for value in (*several(), nested(trio(), 4)):
            self.assertIs(trio() == value, False)
            self.assertIs(value == trio(), False)
            self.assertIs(trio() != value, True)
            self.assertIs(trio() in [value], False)

    def test_methods_stand_in_the_class_itself(self):
        for name in (
            "__init__", "people", "answers", "takings", "starts", "copies", "turn", "copy", "with_answer", "with_taking",
            "with_copy", "with_starts", "part", "renamed", "writers", "is_closed", "__contains__", "__iter__", "__len__",
            "__eq__", "__str__",
        ):
            self.assertIn(name, vars(Company))
        self.assertEqual(Company.__module__, "namedabove.base.companies")


if __name__ == "__main__":
    unittest.main()
