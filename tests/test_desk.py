"""[16.1] and stage 16: desks beside a record of the tests' own through drawn changes, and errors."""

import unittest
from random import Random

from namedabove.base.companies import Company
from namedabove.base.cutters import Cutter
from namedabove.errors import (
    Broken, InvalidCompany, InvalidCutter, InvalidNumber, InvalidOperation, InvalidPledge, InvalidRule, NothingToUndo, TooMany,
    UnknownName,
)
from namedabove.live.desk import Desk
from namedabove.live.inbox import Inbox
from namedabove.read.rules import Rule
from namedabove.walk.alike import find_unlike, is_alike_paper
from namedabove.walk.mixed import find_mixed, is_mixed_paper
from namedabove.walk.parted import find_parted, is_parted_paper
from namedabove.walk.places import find_wrong, is_wrong_paper
from namedabove.walk.rows import find_rows, is_rows_paper
from namedabove.walk.states import Walk
from tests.plain_talks import some_company, some_cutter, some_rule, some_turn
from tests.test_parted import KINS
from tests.values import several

ALL, LAST, TWO, FIRST, NONE = Cutter("all"), Cutter("..+"), Cutter("..++"), Cutter("+.."), Cutter("..")
PLAIN = Company(("ann", "bob"), {("ann", "bob"): (ALL, True, TWO), ("bob", "ann"): (ALL, True, TWO)}, starts=("ann",))
TAKES = PLAIN.with_taking("bob", "ann", (ALL, True, LAST))
WIDE, NARROW = Rule(ALL, sees_lost=True), Rule(LAST)
NAMES = ("a", "b", "copy", "firm", "z")


def paper_of(company, rule, pledge, limit):
    """The paper of the stage of a pledge."""
    word, *rest = pledge
    if word == "whole":
        return find_parted(company, rule, *rest[:2], kin=rest[2], most=rest[3], limit=limit)
    if word == "rows":
        return find_rows(company, rule, *rest[:2], kin=rest[2], most=rest[3], limit=limit)
    if word == "like":
        return find_unlike(company, rule, rest[0])
    return find_mixed(company, rule) if word == "pure" else find_wrong(company, rule)


def is_paper_of(company, rule, pledge, value):
    word, *rest = pledge
    if word in ("whole", "rows"):
        judge = is_parted_paper if word == "whole" else is_rows_paper
        return judge(company, rule, *rest[:2], value, kin=rest[2], most=rest[3])
    if word == "like":
        return is_alike_paper(company, rule, rest[0], value)
    return (is_mixed_paper if word == "pure" else is_wrong_paper)(company, rule, value)


def what_breaks(company, rule, pledges, limit):
    """The error of the first pledge that does not hold, with what it keeps; None if all hold."""
    for name in sorted(pledges):
        try:
            if paper_of(company, rule, pledges[name], limit)[0] == "lot":
                return Broken, name
        except TooMany:
            return TooMany, limit
    return None


class Record:
    """A desk as a list of all that it was: triples of company, rule and pledges."""

    def __init__(self, company, rule):
        self.stands = [(company, rule, {})]
        self.undone = []

    @property
    def now(self):
        return self.stands[-1]

    def copy(self):
        other = Record(*self.now[:2])
        other.stands, other.undone = list(self.stands), list(self.undone)
        return other

    def become(self, stand):
        if stand != self.now:
            self.stands.append(stand)
            self.undone = []


def some_pledge(chance, company):
    people = chance.choice(company.people), chance.choice(company.people), chance.choice(KINS)
    return chance.choice((
        ("whole", *people, chance.choice((None, 0, 1, 2))), ("rows", *people, chance.choice((0, 1, 2))), ("pure",), ("placed",),
        ("like", some_rule(chance)), ("whole", *people, 0), ("rows", *people, 0),
    ))


class Change:
    """A change by chance, for a desk and for a stand."""

    def __init__(self, chance, stand):
        company, rule, pledges = stand
        self.word = chance.choice(("answer", "taking", "copy", "start", "use", "replace", "pledge", "pledge", "release"))
        person, other = chance.choice(company.people), chance.choice(company.people)
        if self.word in ("answer", "taking"):
            turns = list((company.answers if self.word == "answer" else company.takings).values())
            self.told = (person, other, chance.choice((None, some_turn(chance), *turns[:1])))
        elif self.word == "copy":
            self.told = (person, chance.choice((some_cutter(chance), Cutter())))
        elif self.word == "start":
            self.told = (person, chance.random() < 0.6)
        elif self.word == "use":
            self.told = (chance.choice((some_rule(chance), rule, rule.seeing())),)
        elif self.word == "replace":
            self.told = (chance.choice((some_company(chance, len(company)), company)),)
        elif self.word == "pledge":
            self.told = (chance.choice(NAMES), some_pledge(chance, company))
        else:
            self.told = (chance.choice(NAMES),)

    def on(self, desk):
        return getattr(desk, self.word)(*self.told)

    def error(self, stand):
        """The error of the arguments alone."""
        if self.word == "pledge" and self.told[0] in stand[2]:
            return InvalidOperation
        return UnknownName if self.word == "release" and self.told[0] not in stand[2] else None

    def stand_behind(self, stand):
        company, rule, pledges = stand
        if self.word in ("answer", "taking", "copy"):
            company = getattr(company, "with_" + self.word)(*self.told)
        elif self.word == "start":
            starts = set(company.starts) - {self.told[0]} | ({self.told[0]} if self.told[1] else set())
            company = company.with_starts(tuple(sorted(starts)))
        elif self.word == "use":
            rule = self.told[0]
        elif self.word == "replace":
            company = self.told[0]
        elif self.word == "pledge":
            pledges = {**pledges, self.told[0]: self.told[1]}
        else:
            pledges = {name: pledges[name] for name in pledges if name != self.told[0]}
        return company, rule, pledges

    def looked_at(self, stand):
        """The pledges that are looked at for this change alone."""
        if self.word == "release":
            return {}
        return {self.told[0]: self.told[1]} if self.word == "pledge" else stand[2]


class Changes(unittest.TestCase):
    def check(self, desk, record):
        company, rule, pledges = record.now
        self.assertEqual((desk.company, desk.rule, desk.pledges), (company, rule, pledges))
        self.assertEqual((list(desk.pledges), len(desk)), (sorted(pledges), len(pledges)))
        self.assertEqual(desk.version, len(record.stands) - 1)
        self.assertEqual(str(desk), f"desk of {len(company)} people, {len(pledges)} pledges, version {desk.version}")
        for name in NAMES:
            self.assertIs(name in desk, name in pledges)

    def check_papers(self, desk):
        for name, pledge in desk.pledges.items():
            paper = desk.paper(name)
            self.assertNotEqual(paper[0], "lot")
            self.assertIs(is_paper_of(desk.company, desk.rule, pledge, paper), True)

    def check_refused(self, call, error, told, desk, stand):
        """A call that is refused by a pledge; the paper shows that it would not hold."""
        with self.assertRaises(error) as caught:
            call()
        if error is Broken:
            self.assertEqual(caught.exception.name, told)
            reason = caught.exception.reason
            self.assertEqual(reason[0], "lot")
            self.assertIs(is_told_against(stand, told, reason), True)
        elif error is TooMany:
            self.assertEqual(caught.exception.limit, told)

    def single(self, chance, desk, record, limit):
        change = Change(chance, record.now)
        error = change.error(record.now)
        if error is not None:
            self.assertRaises(error, change.on, desk)
            return "wrong"
        stand = change.stand_behind(record.now)
        broken = None if stand == record.now else what_breaks(*stand[:2], change.looked_at(record.now), limit)
        if broken is not None:
            self.check_refused(lambda: change.on(desk), *broken, desk, stand)
            return broken[0].__name__
        record.become(stand)
        self.assertEqual(change.on(desk), len(record.stands) - 1)
        return "changed"

    def several_at_once(self, chance, desk, record, limit):
        stand = record.now
        calls, fails = [], False
        for _ in range(chance.randrange(4)):
            change = Change(chance, stand)
            fails = fails or change.error(stand) is not None
            if not fails:
                stand = change.stand_behind(stand)
            calls.append(lambda same, change=change: change.on(same))
        word = chance.choice(("", "", "error", "make", "undo", "redo"))
        if word:
            calls.insert(chance.randint(0, len(calls)), {
                "error": lambda same: {}["out"], "make": lambda same: same.make(), "undo": lambda same: same.undo(many=-1),
                "redo": lambda same: same.redo(many=0),
            }[word])
        if fails or word:
            self.assertRaises((KeyError, InvalidOperation), desk.make, *calls)
            return "failed"
        broken = None if stand == record.now else what_breaks(*stand, limit)
        if broken is not None:
            self.check_refused(lambda: desk.make(*calls), *broken, desk, stand)
            return broken[0].__name__
        record.become(stand)
        self.assertEqual(desk.make(*calls), len(record.stands) - 1)
        return "made"

    def deed(self, chance, desk, record, limit):
        word = chance.choice(("single",) * 6 + ("make", "make", "undo", "redo", "trial", "twin"))
        if word == "single":
            return self.single(chance, desk, record, limit)
        if word == "make":
            return self.several_at_once(chance, desk, record, limit)
        if word in ("undo", "redo"):
            many = chance.choice((0, 1, 1, 2, 30))
            if many > (len(record.stands) - 1 if word == "undo" else len(record.undone)):
                self.assertRaises(NothingToUndo, getattr(desk, word), many=many)
                return "nothing"
            for _ in range(many):
                if word == "undo":
                    record.undone.append(record.stands.pop())
                else:
                    record.stands.append(record.undone.pop())
            self.assertEqual(getattr(desk, word)(many=many), len(record.stands) - 1)
            return word
        if word == "twin":
            desk, record = desk.twin(), record.copy()
            for _ in range(2):
                self.deed(chance, desk, record, limit)
            self.check(desk, record)
            return word
        self.in_a_block(chance, desk, record.copy(), limit)
        return word

    def in_a_block(self, chance, desk, record, limit):
        def act(same):
            self.assertIs(same, desk)
            for _ in range(chance.randrange(3)):
                self.deed(chance, same, record, limit)
            self.check(same, record)
            if chance.random() < 0.5:
                raise ZeroDivisionError
            return "told"
        try:
            if chance.random() < 0.5:
                self.assertEqual(desk.attempt(act), "told")
            else:
                with desk.trial() as same:
                    act(same)
        except ZeroDivisionError:
            pass

    def test_drawn_changes(self):
        told = []
        for seed in range(150):
            chance = Random(f"desk {seed}")
            limit = chance.choice((60, 400))
            company, rule = some_company(chance, chance.randint(1, 2)), some_rule(chance)
            desk, record = Desk(company, rule, limit=limit), Record(company, rule)
            for _ in range(18):
                told.append(self.deed(chance, desk, record, limit))
                self.check(desk, record)
            self.check_papers(desk)
            twin = desk.twin()
            self.assertEqual(twin.redo(many=len(record.undone)), len(record.stands) + len(record.undone) - 1)
            self.assertEqual(twin.undo(many=twin.version), 0)
            self.assertEqual((twin.company, twin.rule, twin.pledges), (company, rule, {}))
        for word in ("changed", "Broken", "TooMany", "wrong", "made", "failed", "undo", "redo", "nothing"):
            self.assertGreater(told.count(word), 4, word)


def is_told_against(stand, name, reason):
    """Whether a paper shows that a pledge does not hold."""
    company, rule, pledges = stand
    return is_paper_of(company, rule, pledges[name], reason)


class Told(unittest.TestCase):
    def check_kept(self, call, error, attribute, value):
        with self.assertRaises(error) as caught:
            call()
        self.assertEqual(getattr(caught.exception, attribute), value)

    def test_the_first_of_several_pledges_is_told(self):
        desk = Desk(PLAIN, WIDE)
        for name in ("c", "a", "b"):
            desk.pledge(name, ("whole", "ann", "bob", "above", 1))
        desk.pledge("aa", ("pure",))
        self.check_kept(lambda: desk.use(NARROW), Broken, "name", "a")
        desk.release("a")
        self.check_kept(lambda: desk.use(NARROW), Broken, "name", "b")
        self.check_kept(lambda: desk.taking("bob", "ann", (ALL, True, LAST)), Broken, "name", "aa")
        self.assertEqual((desk.company, desk.rule, desk.version), (PLAIN, WIDE, 5))

    def test_too_many_states_for_a_pledge(self):
        many = len(Walk(PLAIN, WIDE).states())
        desk = Desk(PLAIN, WIDE, limit=many)
        self.assertEqual(desk.pledge("z", ("whole", "ann", "bob", "above", 1)), 1)
        self.check_kept(lambda: desk.start("bob", True), TooMany, "limit", many)
        desk.pledge("a", ("like", WIDE))
        self.check_kept(lambda: desk.use(NARROW), Broken, "name", "a")
        desk.release("a")
        self.check_kept(lambda: desk.use(NARROW), TooMany, "limit", many)
        small = Desk(PLAIN, WIDE, limit=many - 1)
        self.check_kept(lambda: small.pledge("z", ("whole", "ann", "bob", "above", 1)), TooMany, "limit", many - 1)
        self.assertEqual((small.pledge("pure", ("pure",)), small.use(NARROW)), (1, 2))

    def test_the_limit_that_is_not_told(self):
        large = PLAIN.with_answer("ann", "bob", (ALL, True, ALL)).with_answer("bob", "ann", (ALL, True, ALL))
        self.assertGreater(len(Walk(large, NARROW).states(limit=20000)), 2000)
        desk = Desk(large, NARROW)
        self.check_kept(lambda: desk.pledge("a", ("whole", "ann", "ann", "above", 0)), TooMany, "limit", 2000)
        desk = Desk(large, NARROW, limit=20000)
        self.assertEqual((desk.pledge("a", ("whole", "ann", "ann", "above", 0)), desk.twin().pledge("b", ("rows", "ann", "ann", "above", 0))), (1, 2))

    def test_what_is_equal_is_no_change(self):
        long = Company(PLAIN.people, {pair: (Cutter(), True, Cutter("all", "..++")) for pair in PLAIN.answers}, starts=("ann",))
        desk = Desk(long, Rule(Cutter("all", "all")))
        desk.start("bob", True)
        desk.undo()
        for version in (
            desk.answer("ann", "bob", (ALL, True, TWO)), desk.answer("ann", "ann", None), desk.taking("ann", "bob", None),
            desk.copy("ann", ALL), desk.start("ann", True), desk.start("bob", False), desk.use(Rule(ALL)), desk.replace(PLAIN),
            desk.make(), desk.make(lambda same: same.use(NARROW), lambda same: same.use(Rule(ALL))),
        ):
            self.assertEqual(version, 0)
        self.assertEqual((str(desk.company.answers["ann", "bob"][2]), str(desk.rule)), ("all > ..++", "rule all > all"))
        self.assertEqual(desk.redo(), 1)

    def test_making(self):
        desk = Desk(PLAIN, WIDE)
        desk.pledge("firm", ("whole", "ann", "bob", "above", 1))
        seen = []
        version = desk.make(
            lambda same: same.use(NARROW), lambda same: seen.append((same is desk, desk.rule, desk.version)), lambda same: same.use(WIDE.blind()),
            lambda same: same.release("firm"), lambda same: same.pledge("like", ("like", WIDE.blind())),
        )
        self.assertEqual((version, seen, list(desk.pledges)), (2, [(True, NARROW, 1)], ["like"]))
        self.assertEqual((desk.undo(), list(desk.pledges), desk.rule, desk.redo()), (1, ["firm"], WIDE, 2))
        self.check_kept(lambda: desk.make(lambda same: same.pledge("a", ("like", WIDE)), lambda same: same.start("bob", True)), Broken, "name", "a")
        self.assertEqual((desk.version, desk.company, len(desk)), (2, PLAIN, 1))
        self.assertEqual(desk.make(lambda same: same.pledge("a", ("like", WIDE)), lambda same: same.release("a")), 2)
        self.assertRaises(InvalidOperation, desk.make, lambda same: same.pledge("like", ("pure",)))
        self.assertRaises(InvalidPledge, desk.make, lambda same: same.use(WIDE), lambda same: same.pledge("a", ("Pure",)))
        self.assertEqual((desk.version, desk.rule), (2, WIDE.blind()))

    def test_blocks_while_changes_are_made(self):
        desk = Desk(PLAIN, WIDE)

        def change(same):
            same.use(NARROW)
            same.attempt(lambda again: again.start("bob", True))
            self.assertEqual(same.company, PLAIN)
            twin = same.twin()
            self.assertEqual((twin.rule, twin.version, twin.use(WIDE.blind())), (NARROW, 0, 1))
        self.assertEqual((desk.make(change), desk.rule, desk.undo(), desk.rule), (1, NARROW, 0, WIDE))

    def test_errors_that_are_caught_while_changes_are_made(self):
        desk = Desk(PLAIN, WIDE)

        def change(same):
            for call in (same.make, same.undo, same.redo, lambda: same.undo(many=5), lambda: same.release("none")):
                try:
                    call()
                except (InvalidOperation, UnknownName):
                    pass
            same.start("bob", True)
        self.assertEqual((desk.make(change), desk.company.starts), (1, ("ann", "bob")))

    def test_inboxes(self):
        desk = Desk(PLAIN, WIDE)
        inbox = desk.inbox()
        self.assertEqual((inbox == Inbox(WIDE), inbox.version), (True, 0))
        inbox.use(NARROW)
        self.assertEqual((desk.rule, desk.inbox() == Inbox(WIDE)), (WIDE, True))

    def test_equality(self):
        desk = Desk(PLAIN, WIDE)
        desk.pledge("like", ("like", WIDE))
        other = Desk(TAKES, NARROW, limit=7)
        other.replace(PLAIN)
        other.use(WIDE)
        self.assertIs(desk == other, False)
        other.pledge("like", ("like", Rule(Cutter("all", "all"), sees_lost=True)))
        self.assertIs(desk == other, True)
        one, two = Desk(PLAIN, WIDE), Desk(TAKES, WIDE)
        self.assertEqual((one == two, one == Desk(PLAIN, NARROW), one == Desk(PLAIN, WIDE, limit=1)), (False, False, True))
        for value in (Desk(PLAIN, WIDE), PLAIN, *several()):
            self.assertEqual((desk == value, desk != value), (False, True))
        self.assertRaises(TypeError, lambda: list(desk))

    def test_names_in_a_desk(self):
        desk = Desk(PLAIN, WIDE)
        desk.pledge("a", ("pure",))
        for value in several():
            self.assertIs(value in desk, value == "a")

    def test_nothing_gives_access_to_what_is_kept(self):
        desk = Desk(PLAIN, WIDE)
        desk.pledge("a", ("whole", "ann", "bob", "above", 1))
        desk.pledges.clear()
        desk.paper("a")[1].clear()
        desk.company.answers.clear()
        self.assertEqual((list(desk.pledges), desk.company), (["a"], PLAIN))
        self.assertEqual(desk.paper("a"), find_parted(PLAIN, WIDE, "ann", "bob", kin="above", most=1))

    def test_blocks_within_blocks(self):
        desk = Desk(PLAIN, WIDE)
        desk.pledge("a", ("pure",))
        desk.undo()
        with desk.trial() as same:
            same.use(NARROW)
            with same.trial() as again:
                again.undo()
                self.assertEqual((desk.rule, desk.version), (WIDE, 0))
            self.assertEqual((desk.rule, desk.version), (NARROW, 1))
        self.assertEqual((desk.rule, desk.version, desk.redo(), "a" in desk), (WIDE, 0, 1, True))


class Errors(unittest.TestCase):
    def check_kept(self, call, error, attribute, value):
        with self.assertRaises(error) as caught:
            call()
        self.assertEqual(getattr(caught.exception, attribute), value)

    def test_making_a_desk(self):
        for value in several():
            if not isinstance(value, Company):
                self.assertRaises(InvalidCompany, Desk, value, 3, limit=0)
            if not isinstance(value, Rule):
                self.assertRaises(InvalidRule, Desk, PLAIN, value, limit=0)
            if not (isinstance(value, int) and not isinstance(value, bool) and 1 <= value <= 20000):
                self.check_kept(lambda: Desk(PLAIN, WIDE, limit=value), InvalidNumber, "value", value)

    def test_changes(self):
        desk = Desk(PLAIN, WIDE)
        for value in several():
            if value not in ("ann", "bob"):
                for call in (
                    lambda: desk.answer(value, 3, 3), lambda: desk.answer("ann", value, 3), lambda: desk.taking(value, 3, 3),
                    lambda: desk.taking("ann", value, 3), lambda: desk.copy(value, 3), lambda: desk.start(value, 3),
                ):
                    self.check_kept(call, UnknownName, "name", value)
            if value is not None:
                self.assertRaises(InvalidOperation, desk.answer, "ann", "bob", value)
                self.assertRaises(InvalidOperation, desk.taking, "ann", "bob", value)
            if not isinstance(value, Cutter):
                self.assertRaises(InvalidCutter, desk.copy, "ann", value)
            if not isinstance(value, bool):
                self.assertRaises(InvalidOperation, desk.start, "ann", value)
            if not isinstance(value, Rule):
                self.assertRaises(InvalidRule, desk.use, value)
            if not isinstance(value, Company) or value.people != PLAIN.people:
                self.assertRaises(InvalidCompany, desk.replace, value)
            for call in (lambda: desk.release(value), lambda: desk.paper(value)):
                self.check_kept(call, UnknownName, "name", value)
        self.assertEqual(desk.version, 0)

    def test_pledges(self):
        desk = Desk(PLAIN, WIDE)
        desk.pledge("there", ("pure",))
        for value in several():
            if value not in ("a", "ann", "all"):
                self.assertRaises(InvalidOperation, desk.pledge, value, 3)
            self.assertRaises(InvalidPledge, desk.pledge, "name", value)
            for at in range(1, 5):
                for word in ("whole", "rows"):
                    pledge = [word, "ann", "bob", "above", 1]
                    pledge[at] = value
                    whole = isinstance(value, int) and not isinstance(value, bool) and 0 <= value <= 1000
                    fits = value == "ann" if at in (1, 2) else at == 4 and (whole or value is None and word == "whole")
                    if not fits:
                        self.assertRaises(InvalidPledge, desk.pledge, "name", tuple(pledge))
            for pledge in ((value,), (value, "ann", "bob", "above", 1), ("pure", value), ("placed", value), ("like", value, value)):
                self.assertRaises(InvalidPledge, desk.pledge, "name", pledge)
            if not isinstance(value, Rule):
                self.assertRaises(InvalidPledge, desk.pledge, "name", ("like", value))
        for pledge in (["pure"], ("pure", "pure"), ("whole", "ann", "bob", "above"), ("rows", "ann", "bob", "above", 1, 1), ("like",), ("Pure",)):
            self.assertRaises(InvalidPledge, desk.pledge, "name", pledge)
        self.assertRaises(InvalidOperation, desk.pledge, "there", ("placed",))
        self.assertRaises(InvalidOperation, desk.pledge, "There", None)
        self.assertEqual(desk.version, 1)

    def test_broken_pledges(self):
        desk = Desk(TAKES, NARROW)
        for pledge, word in (
            (("whole", "ann", "bob", "above", None), "lot"), (("whole", "ann", "bob", "above", 1), "lot"), (("rows", "ann", "bob", "above", 1), "lot"),
            (("pure",), "lot"), (("placed",), "lot"), (("like", WIDE), "lot"), (("whole", "ann", "bob", "above", 0), "tables"),
            (("rows", "ann", "bob", "above", 0), "sets"), (("like", Rule(Cutter("..-+"))), "alike"),
        ):
            if word == "lot":
                with self.assertRaises(Broken) as caught:
                    desk.pledge("name", pledge)
                self.assertEqual(caught.exception.name, "name")
                self.assertIs(is_paper_of(TAKES, NARROW, pledge, caught.exception.reason), True)
                self.assertEqual(desk.version, 0)
            else:
                desk.pledge("name", pledge)
                self.assertEqual(desk.paper("name")[0], word)
                desk.undo()

    def test_make(self):
        desk = Desk(PLAIN, WIDE)
        for value in several():
            if value is None or isinstance(value, (int, str, tuple, list, dict)):
                self.assertRaises(InvalidOperation, desk.make, lambda same: same.use(NARROW), value)
        self.assertEqual((desk.version, desk.rule), (0, WIDE))

    def test_numbers_of_changes(self):
        desk = Desk(PLAIN, WIDE)
        desk.use(NARROW)
        for value in several():
            whole = isinstance(value, int) and not isinstance(value, bool) and value >= 0
            for call in (lambda: desk.undo(many=value), lambda: desk.redo(many=value)):
                if not whole:
                    self.check_kept(call, InvalidNumber, "value", value)
                elif value > 1:
                    self.check_kept(call, NothingToUndo, "many", value)
        self.assertEqual((desk.version, desk.undo(), desk.rule), (1, 0, WIDE))

    def test_methods_stand_in_the_class_itself(self):
        for name in (
            "company rule pledges version pledge release answer taking copy start use replace make paper inbox undo redo trial "
            "attempt twin __contains__ __len__ __eq__ __str__"
        ).split():
            self.assertIn(name, vars(Desk))
        self.assertEqual(Desk.__module__, "namedabove.live.desk")


if __name__ == "__main__":
    unittest.main()
