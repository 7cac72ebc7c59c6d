"""The examples of the document, word for word."""

import doctest
import unittest

IMPORTS = """
>>> from namedabove.base.cutters import Cutter
>>> from namedabove.base.companies import Company
>>> from namedabove.talk.bundles import Bundle
>>> from namedabove.read.rules import Rule
>>> from namedabove.read.lots import (
...     Lot, groups, together, neighbours, chain, is_chain, colours, is_colouring, shown, row_of_losses)
>>> from namedabove.walk.states import MAX_STATES, Walk
>>> from namedabove.walk.parted import find_parted, is_parted_paper, least_losses, least_break
>>> from namedabove.walk.rows import find_rows, is_rows_paper, least_row
>>> from namedabove.walk.mixed import find_mixed, is_mixing, is_mixed_paper, mixed_pairs
>>> from namedabove.walk.alike import find_unlike, are_alike, is_alike_paper, binds_more
>>> from namedabove.walk.places import (
...     find_wrong, find_missed, is_wrong_paper, is_missed_paper, are_shown_alike, places_in)
>>> from namedabove.walk.helpers import helped, helpers, helps, help_table
>>> from namedabove.live.inbox import Inbox, arrival, arrivals
>>> from namedabove.text.formats import (
...     cutter_text, rule_text, turn_text, company_text, bundle_text, lot_text, inbox_text, read_cutter, read_rule, read_turn,
...     read_company, read_bundle, read_lot, read_inbox)
>>> from namedabove.live.desk import Desk
"""

VALUES = """
>>> ALL = Cutter("all")
>>> LAST = Cutter("..+")
>>> TWO = Cutter("..++")
>>> FIRST = Cutter("+..")
>>> PLAIN = Company(("ann", "bob"), {("ann", "bob"): (ALL, True, TWO), ("bob", "ann"): (ALL, True, TWO)}, starts=("ann",))
>>> TAKES = PLAIN.with_taking("bob", "ann", (ALL, True, LAST))
>>> WIDE = Rule(ALL, sees_lost=True)
>>> NARROW = Rule(LAST)
"""

CUTTERS = """
>>> [Cutter("+..-++")(("a", "b", "c", "d")), (TWO >> FIRST).places(5), TWO >> TWO == TWO, str(FIRST >> LAST)]
[('a', 'c', 'd'), (3,), True, '+.. > ..+']
>>> [Cutter("+-..") == FIRST, Cutter("++..+++").parting(ALL), LAST.is_within(TWO), Cutter("++..", "..+").places(1)]
[True, (6, 2), True, (0,)]
"""

COMPANIES = """
>>> [PLAIN.turn("ann", "bob") == (ALL, True, TWO), PLAIN.turn("ann", "ann"), PLAIN.writers(), str(TAKES), "bob" in PLAIN]
[True, None, ('ann', 'bob'), 'company of 2 people, 2 answers, 1 takings', True]
>>> [PLAIN.part(("bob",)).writers(), PLAIN.is_closed(("ann",)), PLAIN.with_copy("ann", LAST) == PLAIN]
[(), False, False]
"""

BUNDLES = """
>>> talk = Bundle(TAKES, ("ann", None, True), ("bob", 0, False), ("ann", 1, False), ("bob", 2, False), ("ann", 3, True))
>>> [[talk.list_of(mark) for mark in range(5)], talk.way_of(3), talk.talk_of(3), talk.talk_of(4), talk.talks()]
[[(), (0,), (0, 1), (1, 2), (3,)], (0, 1, 2), 0, 4, (0, 4)]
>>> [talk.parting(2, 4), talk.ways((1,))[0] == Bundle(TAKES, ("ann", None, True), ("bob", 0, False)), talk.ways((1, 2))[1]]
[2, True, (0, 1, 2)]
"""

RULES = """
>>> [WIDE.bound(talk, 3), NARROW.bound(talk, 3), str(WIDE), NARROW.is_within(WIDE), WIDE.is_within(NARROW), NARROW.seeing() == Rule(Cutter("..-+"), sees_lost=True)]
[(1, 2), (2,), 'seeing rule all', True, False, True]
"""

LOTS = """
>>> lot = Lot(talk, (0, 3, 4))
>>> [groups(WIDE, lot), groups(NARROW, lot), groups(WIDE, lot.with_come(2)), len(lot), lot.lost, shown(WIDE, lot.with_come(1))]
[((0,), (3, 4)), ((0,), (3, 4)), ((0, 2, 3, 4),), 2, (1, 2), {0: None, 1: 0, 3: 1, 4: 3}]
>>> [chain(WIDE, lot.with_come(2), 0, 4), colours(NARROW, lot, 0, 4), row_of_losses(lot, 4), is_colouring(WIDE, lot, 0, 3, {0: 0, 1: 1, 2: 1, 3: 1, 4: 1})]
[(0, 2, 3, 4), {0: 0, 3: 1, 4: 1}, 2, True]
"""

STATES = """
>>> walk = Walk(PLAIN, WIDE)
>>> [walk.begins(), walk.steps(("ann", 0, ((), (), ()))), len(walk.states())]
[(('ann', 0, ((), (), ())), ('ann', 1, ((), (), ()))), (('bob', 0, ((0,), (), ())), ('bob', 1, ((0,), (), ()))), 22]
>>> [walk.cost(("bob", 1, ((0,), (), ()))), Walk(PLAIN, NARROW).steps(("ann", 0, ((), (), ()))), Walk.short((0, 1, 9, 1, 1, 0, 0))]
[1, (('bob', 0, ((0,), (), ())), ('bob', 2, ((0,), (), ()))), ((0, 1), (1, 9), (1, 0, 0))]
"""

PARTED = """
>>> [least_losses(PLAIN, WIDE, "ann", "bob", kin="above"), least_losses(PLAIN, NARROW, "ann", "bob", kin="above"), least_break(PLAIN, NARROW), find_parted(PLAIN, WIDE, "ann", "ann", kin="above", most=1)[0]]
[2, 1, 1, 'tables']
>>> word, parted, first, second = find_parted(PLAIN, NARROW, "ann", "ann", kin="above", most=1)
>>> [word, together(NARROW, parted, first, second), len(parted), parted.bundle.talk_of(first) == parted.bundle.talk_of(second)]
['lot', False, 1, True]
"""

ROWS = """
>>> [least_row(PLAIN, WIDE, "ann", "bob", kin="above"), find_rows(PLAIN, WIDE, "bob", "bob", kin="beside", most=0)[0], least_row(PLAIN, Rule(ALL), "ann", "ann", kin="above")]
[2, 'sets', 2]
"""

MIXED = """
>>> word, three, first, second = find_mixed(TAKES, NARROW)
>>> [word, len(three.bundle), is_mixing(PLAIN, WIDE), len(find_mixed(PLAIN, WIDE)[1]), mixed_pairs(NARROW, Lot(talk, (0, 3, 4)))]
['lot', 3, False, 9, ((3, 4),)]
"""

ALIKE = """
>>> word, three, first, second = find_unlike(PLAIN, WIDE, NARROW)
>>> [word, len(three.bundle), len(three), [len(part) for part in find_unlike(PLAIN, WIDE, Rule(TWO, sees_lost=True))[1:]]]
['lot', 3, 1, [4, 16]]
>>> [binds_more(PLAIN, NARROW, WIDE), binds_more(PLAIN, WIDE, Rule(TWO)), are_alike(PLAIN, Rule(ALL), Rule(TWO))]
[True, False, True]
"""

PLACES = """
>>> [len(find_wrong(PLAIN, NARROW)[1]), len(find_wrong(PLAIN, Rule(FIRST))[1].bundle), len(find_missed(PLAIN, WIDE)[1].bundle)]
[5, 3, 4]
>>> [are_shown_alike(PLAIN, WIDE, Rule(TWO)), places_in(NARROW, Lot(talk, (0, 2, 3, 4)))]
[True, {0: 'right', 2: 'missed', 3: 'right', 4: 'wrong'}]
"""

HELPERS = """
>>> [helpers(PLAIN, WIDE, "ann", "bob", kin="above", most=1), helpers(PLAIN, WIDE, "ann", "bob", kin="above", most=2), helpers(PLAIN, NARROW, "ann", "ann", kin="above")]
[((),), (('ann', 'bob'),), ()]
>>> [helps(PLAIN, WIDE, "ann", "bob", ("bob",), kin="above", most=2), help_table(PLAIN, WIDE, kin="above")[("bob", "ann")]]
[False, 2]
"""

INBOX = """
>>> inbox = Inbox.of(WIDE, arrivals(lot))
>>> [inbox.groups, inbox.receive(arrival(talk, 2), arrival(talk, 0)), inbox.groups, inbox.shown(3), inbox.moves(3), inbox.chain(0, 4)]
[((0,), (3, 4)), 1, ((0, 2, 3, 4),), 2, 1, (0, 2, 3, 4)]
>>> [str(inbox), inbox.undo(), 2 in inbox, inbox.redo(), inbox[3]]
['inbox of 4 letters, 1 groups', 1, False, 2, (3, 'bob', (1, 2))]
"""

FORMATS = """
>>> print(company_text(TAKES))
people ann bob
starts ann
answer ann bob: all | adds | ..++
answer bob ann: all | adds | ..++
taking bob ann: all | adds | ..+
>>> [lot_text(lot), inbox_text(Inbox.of(WIDE, arrivals(lot))), rule_text(NARROW)]
['ann\\nbob < 0 lost\\nann < 1 lost\\nbob < 2\\nann new 3', 'sees all\\n0 ann:\\n3 bob: 1 2\\n4 ann: 3', 'skips ..+']
>>> [read_company(company_text(TAKES)) == TAKES, read_bundle(TAKES, bundle_text(talk)) == talk]
[True, True]
"""

DESK = """
>>> desk = Desk(PLAIN, WIDE)
>>> [desk.pledge("firm", ("whole", "ann", "bob", "above", 1)), desk.answer("bob", "ann", (ALL, True, ALL)), desk.pledge("pure", ("pure",)), str(desk)]
[1, 2, 3, 'desk of 2 people, 2 pledges, version 3']
>>> [desk.undo(many=2), list(desk.pledges), desk.paper("firm")[0], desk.company == PLAIN, desk.use(WIDE)]
[1, ['firm'], 'tables', True, 1]
"""

SECTIONS = (IMPORTS, VALUES, CUTTERS, COMPANIES, BUNDLES, RULES, LOTS, STATES, PARTED, ROWS, MIXED, ALIKE, PLACES, HELPERS, INBOX, FORMATS, DESK)


class Examples(unittest.TestCase):
    def test_examples(self):
        text = "".join(SECTIONS)
        examples = doctest.DocTestParser().get_doctest(text, {}, "examples", None, 0)
        told = []
        results = doctest.DocTestRunner(verbose=False).run(examples, out=told.append)
        self.assertEqual((results.attempted, results.failed), (text.count(">>> "), 0), "".join(told))


if __name__ == "__main__":
    unittest.main()
