"""[15.1] to [15.5] and stage 15: texts written and read back, and the lines at which they cannot be read."""

import unittest
from random import Random

from namedabove.base.companies import Company
from namedabove.base.cutters import Cutter
from namedabove.errors import (
    InvalidBundle, InvalidCompany, InvalidCutter, InvalidLot, InvalidOperation, InvalidRule, ParseError,
)
from namedabove.live.inbox import Inbox, arrivals
from namedabove.read.lots import Lot
from namedabove.read.rules import Rule
from namedabove.talk.bundles import Bundle
from namedabove.text.formats import (
    bundle_text, company_text, cutter_text, inbox_text, lot_text, read_bundle, read_company, read_cutter, read_inbox,
    read_lot, read_rule, read_turn, rule_text, turn_text,
)
from namedabove.walk.parted import find_parted
from tests.plain_cutters import SOME_PARTS
from tests.plain_inbox import some_arrival
from tests.plain_lots import some_lot
from tests.plain_talks import some_company, some_cutter, some_rule, some_turn
from tests.plain_texts import (
    CUTTER, TURN, first_wrong, is_company_line, is_inbox_line, is_letter_line, is_one_line,
)
from tests.values import several

ALL, LAST, TWO = Cutter("all"), Cutter("..+"), Cutter("..++")
PLAIN = Company(("ann", "bob"), {("ann", "bob"): (ALL, True, TWO), ("bob", "ann"): (ALL, True, TWO)}, starts=("ann",))
TAKES = PLAIN.with_taking("bob", "ann", (ALL, True, LAST))
WORDS = ("adds", "all", "answer", "copy", "hides", "lost", "new", "people", "sees", "skips", "starts", "taking")
NASTY = ("lost", "new", "people", "starts")
TURNS = {(one, other): (ALL, True, TWO) for one in NASTY for other in NASTY}
ODD = Company(NASTY, TURNS, takings=TURNS, copies={"new": LAST})
SNIPPETS = (
    "", " ", "\n", "0", "00", "1", "-", "all", " > ", " lost", "lost", "new 0", "< 0", " < ", ":", ": ", "+", "..", " | ", "adds",
    "ann", "bob", "cyd", "Ann", "starts", "people", "answer ann bob: all | adds | all", "copy ann: ..+", "copy ann: all", "\t", ",",
    "sees", "skips ..+", "-1", "01", "all | hides | ..",
)


def same_cutter(one, other):
    return (one.parts or ("all",)) == (other.parts or ("all",))


def changed(chance, text):
    """A text that is a little different, or much."""
    for _ in range(chance.choice((1, 1, 1, 2, 3))):
        lines = text.split("\n")
        at = chance.randrange(len(lines))
        word = chance.choice(("snippet", "cut", "swap", "twice", "drop", "more", "blank", "end", "move", "other"))
        if word == "snippet":
            place = chance.randint(0, len(text))
            text = text[:place] + chance.choice(SNIPPETS) + text[place:]
        elif word == "cut":
            place = chance.randint(0, len(text))
            text = text[:place] + text[place + chance.choice((1, 1, 2, 5)):]
        elif word == "blank":
            places = [place for place, sign in enumerate(text) if sign == " "] or [0]
            place = chance.choice(places)
            text = text[:place] + chance.choice(("", "  ", "\n", "_")) + text[place + 1:]
        else:
            other = chance.randrange(len(lines))
            if word == "swap":
                lines[at], lines[other] = lines[other], lines[at]
            elif word == "twice":
                lines.insert(other, lines[at])
            elif word == "drop":
                del lines[at]
            elif word == "more":
                lines.insert(at, chance.choice(SNIPPETS))
            elif word == "end":
                lines.append(chance.choice(("", "ann", "-", lines[-1])))
            elif word == "move":
                lines.append(lines.pop(at))
            else:
                words = lines[at].split(" ")
                words[chance.randrange(len(words))] = chance.choice(SNIPPETS + WORDS)
                lines[at] = " ".join(words)
            text = "\n".join(lines)
    return text


class Written(unittest.TestCase):
    def test_written_out(self):
        self.assertEqual([cutter_text(cutter) for cutter in (Cutter(), ALL, Cutter("all", "+-..", ".."))], ["all", "all", "all > +-.. > .."])
        self.assertEqual([rule_text(Rule(TWO)), rule_text(Rule(Cutter(), sees_lost=True))], ["skips ..++", "sees all"])
        self.assertEqual(turn_text((TWO, False, Cutter("all", "+.."))), "..++ | hides | all > +..")
        lonely = Company(("ann",), {}, starts=())
        self.assertEqual(company_text(lonely), "people ann\nstarts")
        full = ODD.with_copy("lost", Cutter("all", "all")).with_starts(("new",)).part(("lost", "new"))
        self.assertEqual(company_text(full).split("\n"), [
            "people lost new", "starts new", "answer lost lost: all | adds | ..++", "answer lost new: all | adds | ..++",
            "answer new lost: all | adds | ..++", "answer new new: all | adds | ..++", "taking lost lost: all | adds | ..++",
            "taking lost new: all | adds | ..++", "taking new lost: all | adds | ..++", "taking new new: all | adds | ..++",
            "copy new: ..+",
        ])
        empty = Bundle(PLAIN)
        self.assertEqual([bundle_text(empty), lot_text(Lot(empty, ()))], ["-", "-"])
        bundle = Bundle(ODD, ("lost", None, True), ("new", 0, False), ("new", 1, True), ("lost", None, True))
        self.assertEqual(bundle_text(bundle), "lost\nnew < 0\nnew new 1\nlost")
        self.assertEqual(lot_text(Lot(bundle, (0, 2))), "lost\nnew < 0 lost\nnew new 1\nlost lost")
        self.assertEqual(inbox_text(Inbox(Rule(TWO))), "skips ..++")
        self.assertEqual(inbox_text(Inbox(Rule(TWO), (12, "new", (0, 11)), (0, "sees", ()))), "skips ..++\n0 sees:\n12 new: 0 11")

    def test_cutters_rules_and_turns(self):
        chance = Random(150)
        for _ in range(200):
            parts = tuple(chance.choice(SOME_PARTS) for _ in range(chance.randint(1, 8)))
            cutter = Cutter.of(parts[:4])
            rest = Cutter.of(parts[4:]) if parts[4:] else None
            text = " > ".join(parts)
            told = read_cutter(text)
            self.assertEqual((told.parts, cutter_text(told)), (parts, text))
            row = tuple(range(chance.randrange(9)))
            self.assertEqual(told(row), rest(cutter(row)) if rest else cutter(row))
            for word, sees in (("sees", True), ("skips", False)):
                rule = read_rule(f"{word} {text}")
                self.assertEqual((rule.cutter.parts, rule.sees_lost, rule_text(rule)), (parts, sees, f"{word} {text}"))
            for word, adds in (("adds", True), ("hides", False)):
                turn = read_turn(f"{text} | {word} | ..+ > all")
                self.assertEqual((turn[0].parts, turn[1], turn[2].parts, len(turn)), (parts, adds, ("..+", "all"), 3))
                self.assertEqual(turn_text(turn), f"{text} | {word} | ..+ > all")
        self.assertEqual(read_cutter("all").parts, ("all",))
        long = " > ".join(["++..+++"] * 400)
        self.assertEqual(cutter_text(read_cutter(long)), long)

    def test_companies_bundles_and_lots(self):
        chance = Random(151)
        for _ in range(80):
            company = some_company(chance, None, 0.6, 0.4)
            text = company_text(company)
            told = read_company(text)
            self.assertEqual((told, company_text(told)), (company, text))
            for pair in company.answers:
                self.assertTrue(same_cutter(told.answers[pair][2], company.answers[pair][2]))
            lot = some_lot(chance, None, company)
            self.assertEqual(read_bundle(company, bundle_text(lot.bundle)), lot.bundle)
            self.assertEqual((read_lot(told, lot_text(lot)), lot_text(read_lot(company, lot_text(lot)))), (lot, lot_text(lot)))

    def test_inboxes(self):
        chance = Random(152)
        for _ in range(80):
            rule = some_rule(chance)
            made = {value[0]: value for value in [some_arrival(chance, 40) for _ in range(chance.randrange(20))]}
            inbox = Inbox(rule, *made.values())
            inbox.use(rule.seeing())
            inbox.use(rule)
            told = read_inbox(inbox_text(inbox))
            self.assertEqual((told == inbox, inbox_text(told)), (True, inbox_text(inbox)))
            self.assertEqual((told.version, told.rule), (1 if made else 0, rule))

    def test_names_that_texts_use_as_words(self):
        chance = Random(153)
        for _ in range(60):
            people = tuple(sorted(chance.sample(WORDS, 4)))
            turns = {(one, other): some_turn(chance) for one in people for other in people if chance.random() < 0.8}
            company = Company(people, turns, takings=turns, copies={people[0]: some_cutter(chance)})
            self.assertEqual(read_company(company_text(company)), company)
            lot = some_lot(chance, 12, company)
            self.assertEqual(read_lot(company, lot_text(lot)), lot)
            self.assertEqual(read_bundle(company, bundle_text(lot.bundle)), lot.bundle)
            inbox = Inbox.of(some_rule(chance), arrivals(lot))
            self.assertEqual(read_inbox(inbox_text(inbox)) == inbox, True)

    def test_more_than_forty_letters(self):
        text = "\n".join(["ann"] + [("bob", "ann")[at % 2] + f" < {at}" for at in range(60)])
        bundle = read_bundle(PLAIN, text)
        self.assertEqual((len(bundle), bundle_text(bundle)), (61, text))
        self.assertEqual(bundle.list_of(60), (58, 59))
        lot = read_lot(PLAIN, text + " lost")
        self.assertEqual((lot.lost, lot_text(lot)), ((60,), text + " lost"))
        self.assertRaises(InvalidBundle, lambda: bundle + ("ann", None, True))

    def test_a_lot_that_was_found(self):
        found = find_parted(PLAIN, Rule(LAST), "ann", "ann", kin="above", most=1)
        self.assertEqual(read_lot(PLAIN, lot_text(found[1])), found[1])


class Read(unittest.TestCase):
    def check(self, read, text, is_line, least=1):
        """Compare where reading stops with what the words of the document tell."""
        lines = text.split("\n")
        wrong = first_wrong(is_line, lines)
        if wrong is None and len(lines) < least:
            wrong = len(lines)
        if wrong is None:
            read(text)
            return "read"
        with self.assertRaises(ParseError) as caught:
            read(text)
        self.assertEqual((caught.exception.line, caught.exception.line.__class__), (wrong, int), text)
        return wrong

    def check_many(self, seed, made, read, is_line, least=1, enough=(0, 1)):
        chance = Random(seed)
        told = set()
        for _ in range(1500):
            company, text = made(chance)
            told.add(self.check(lambda value: read(company, value), changed(chance, text), is_line(company), least))
        self.assertTrue({"read", *enough} <= told, told)

    def test_cutters(self):
        self.check_many(
            154, lambda chance: (None, cutter_text(some_cutter(chance))), lambda _, text: read_cutter(text),
            lambda _: is_one_line(CUTTER),
        )

    def test_rules(self):
        self.check_many(
            155, lambda chance: (None, rule_text(some_rule(chance))), lambda _, text: read_rule(text),
            lambda _: is_one_line(rf"(?:sees|skips) {CUTTER}"),
        )

    def test_turns(self):
        self.check_many(
            156, lambda chance: (None, turn_text(some_turn(chance))), lambda _, text: read_turn(text),
            lambda _: is_one_line(TURN),
        )

    def test_companies(self):
        self.check_many(
            157, lambda chance: (None, company_text(some_company(chance, chance.randint(1, 3), 0.6, 0.3))),
            lambda _, text: read_company(text), lambda _: is_company_line, 2, range(8),
        )

    def test_bundles(self):
        def made(chance):
            company = chance.choice((TAKES, ODD, some_company(chance, 2, 0.8, 0.5)))
            return company, bundle_text(some_lot(chance, chance.randrange(1, 8), company).bundle)
        self.check_many(158, made, read_bundle, lambda company: is_letter_line(company, False), 1, range(6))

    def test_lots(self):
        def made(chance):
            company = chance.choice((TAKES, ODD, some_company(chance, 2, 0.8, 0.5)))
            return company, lot_text(some_lot(chance, chance.randrange(1, 8), company))
        self.check_many(159, made, read_lot, lambda company: is_letter_line(company, True), 1, range(6))

    def test_inboxes(self):
        def made(chance):
            told = {value[0]: value for value in [some_arrival(chance, 12) for _ in range(chance.randrange(6))]}
            return None, inbox_text(Inbox(some_rule(chance), *told.values()))
        self.check_many(160, made, lambda _, text: read_inbox(text), lambda _: is_inbox_line, 1, range(5))

    def test_written_out(self):
        for read, text, line in (
            (read_cutter, "", 0), (read_cutter, "all\n", 1), (read_cutter, "all >", 0), (read_cutter, "all>..", 0), (read_cutter, "+++..", 0),
            (read_cutter, "all\nall", 1), (read_cutter, "\nall", 0), (read_cutter, "ALL", 0), (read_cutter, " all", 0),
            (read_rule, "all", 0), (read_rule, "sees", 0), (read_rule, "sees ", 0), (read_rule, "sees  all", 0), (read_rule, "sees all\n\n", 1),
            (read_turn, "all | adds", 0), (read_turn, "all | adds | all | all", 0), (read_turn, "all | Adds | all", 0),
            (read_turn, "all|adds|all", 0), (read_turn, "all | adds | all\n", 1),
            (read_company, "", 0), (read_company, "people", 0), (read_company, "people ann", 1), (read_company, "people bob ann\nstarts", 0),
            (read_company, "people ann bob cyd dan eve\nstarts", 0), (read_company, "people ann\nstarts ", 1),
            (read_company, "people ann\nstarts bob", 1), (read_company, "people ann\nstarts\n", 2), (read_company, "people ann\n", 1),
            (read_company, "people ann\nstarts\ncopy ann: all", 2), (read_company, "people ann\nstarts\ncopy ann: ..\ncopy ann: ..", 3),
            (read_company, "people ann\nstarts\ncopy ann: ..\nanswer ann ann: all | adds | all", 3),
            (read_company, "people ann\nstarts\nanswer ann bob: all | adds | all", 2),
            (read_company, "people ann\nstarts\nanswer ann ann:  all | adds | all", 2),
            (read_inbox, "", 0), (read_inbox, "sees all\n", 1), (read_inbox, "sees all\n0 ann: ", 1), (read_inbox, "sees all\n0 ann", 1),
            (read_inbox, "sees all\n1 ann: 1", 1), (read_inbox, "sees all\n1 ann: 00", 1), (read_inbox, "sees all\n01 ann:", 1),
            (read_inbox, "sees all\n3 ann: 0 1\n2 ann:", 2), (read_inbox, "sees all\n3 ann: 1 0", 1), (read_inbox, "sees all\n3 ann:0", 1),
            (read_inbox, "sees all\n3 Ann:", 1), (read_inbox, "sees all\n-3 ann:", 1), (read_inbox, "sees all\n3 ann:\n3 ann:", 2),
        ):
            with self.assertRaises(ParseError) as caught:
                read(text)
            self.assertEqual(caught.exception.line, line, (read, text))
        for text, line in (
            ("", 0), ("-\n", 1), ("-\nann", 1), ("ann\n-", 1), ("bob", 0), ("ann\nbob < 00", 1), ("ann\nbob < 1", 1), ("ann\nann < 0", 1),
            ("ann\nbob  < 0", 1), ("ann\nbob <", 1), ("ann\nbob < 0 ", 1), ("ann\nbob new 0", 1), ("ann\nbob < 0\nann new 1\n", 3), ("cyd", 0),
        ):
            for read in (read_bundle, read_lot):
                with self.assertRaises(ParseError) as caught:
                    read(TAKES, text)
                self.assertEqual(caught.exception.line, line, (read, text))
        for read, text in ((read_bundle, "ann lost"), (read_lot, "ann  lost"), (read_lot, "ann lost lost"), (read_lot, "- lost"), (read_lot, "lost")):
            with self.assertRaises(ParseError) as caught:
                read(TAKES, text)
            self.assertEqual(caught.exception.line, 0, (read, text))


class Errors(unittest.TestCase):
    def test_values_that_have_no_text(self):
        for value in [*several(), Inbox(Rule(ALL))]:
            for write, kind, error in (
                (cutter_text, Cutter, InvalidCutter), (rule_text, Rule, InvalidRule), (company_text, Company, InvalidCompany),
                (bundle_text, Bundle, InvalidBundle), (lot_text, Lot, InvalidLot), (inbox_text, Inbox, InvalidOperation),
            ):
                if not isinstance(value, kind):
                    self.assertRaises(error, write, value)
            self.assertRaises(InvalidOperation, turn_text, value)
        for turn in ((ALL, 1, ALL), (ALL, True), [ALL, True, ALL], (ALL, True, "all"), (ALL, True, ALL, ALL)):
            self.assertRaises(InvalidOperation, turn_text, turn)

    def test_values_that_are_no_texts(self):
        for value in several():
            for read in (read_cutter, read_rule, read_turn, read_company, read_inbox, lambda text: read_bundle(PLAIN, text), lambda text: read_lot(PLAIN, text)):
                if isinstance(value, str):
                    continue
                with self.assertRaises(ParseError) as caught:
                    read(value)
                self.assertEqual(caught.exception.line, 0)
            if not isinstance(value, Company):
                self.assertRaises(InvalidCompany, read_bundle, value, 3)
                self.assertRaises(InvalidCompany, read_lot, value, 3)

    def test_functions_stand_in_the_module_itself(self):
        for part in (
            cutter_text, rule_text, turn_text, company_text, bundle_text, lot_text, inbox_text, read_cutter, read_rule,
            read_turn, read_company, read_bundle, read_lot, read_inbox,
        ):
            self.assertEqual(part.__module__, "namedabove.text.formats")


if __name__ == "__main__":
    unittest.main()
