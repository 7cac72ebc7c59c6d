"""The examples of the document, word for word."""

import doctest
import unittest

IMPORTS = """
>>> from namedabove.base.cutters import Cutter
>>> from namedabove.base.companies import Company
>>> from namedabove.talk.bundles import Bundle
>>> from namedabove.read.rules import Rule
"""

VALUES = """
>>> ALL = Cutter("all")
>>> LAST = Cutter("..+")
>>> TWO = Cutter("..++")
>>> FIRST = Cutter("+..")
>>> PLAIN = Company(("ann", "bob"), {("ann", "bob"): (ALL, True, TWO), ("bob", "ann"): (ALL, True, TWO)}, starts=("ann",))
>>> TAKES = PLAIN.with_taking("bob", "ann", (ALL, True, LAST))
>>> WIDE = Rule(ALL, sees_lost=True)
>>> NARROW = Rule(LAST)
"""

CUTTERS = """
>>> [Cutter("+..-++")(("a", "b", "c", "d")), (TWO >> FIRST).places(5), TWO >> TWO == TWO, str(FIRST >> LAST)]
[('a', 'c', 'd'), (3,), True, '+.. > ..+']
>>> [Cutter("+-..") == FIRST, Cutter("++..+++").parting(ALL), LAST.is_within(TWO), Cutter("++..", "..+").places(1)]
[True, (6, 2), True, (0,)]
"""

COMPANIES = """
>>> [PLAIN.turn("ann", "bob") == (ALL, True, TWO), PLAIN.turn("ann", "ann"), PLAIN.writers(), str(TAKES), "bob" in PLAIN]
[True, None, ('ann', 'bob'), 'company of 2 people, 2 answers, 1 takings', True]
>>> [PLAIN.part(("bob",)).writers(), PLAIN.is_closed(("ann",)), PLAIN.with_copy("ann", LAST) == PLAIN]
[(), False, False]
"""

BUNDLES = """
>>> talk = Bundle(TAKES, ("ann", None, True), ("bob", 0, False), ("ann", 1, False), ("bob", 2, False), ("ann", 3, True))
>>> [[talk.list_of(mark) for mark in range(5)], talk.way_of(3), talk.talk_of(3), talk.talk_of(4), talk.talks()]
[[(), (0,), (0, 1), (1, 2), (3,)], (0, 1, 2), 0, 4, (0, 4)]
>>> [talk.parting(2, 4), talk.ways((1,))[0] == Bundle(TAKES, ("ann", None, True), ("bob", 0, False)), talk.ways((1, 2))[1]]
[2, True, (0, 1, 2)]
"""

RULES = """
>>> [WIDE.bound(talk, 3), NARROW.bound(talk, 3), str(WIDE), NARROW.is_within(WIDE), WIDE.is_within(NARROW), NARROW.seeing() == Rule(Cutter("..-+"), sees_lost=True)]
[(1, 2), (2,), 'seeing rule all', True, False, True]
"""

SECTIONS = (IMPORTS, VALUES, CUTTERS, COMPANIES, BUNDLES, RULES)


class Examples(unittest.TestCase):
    def test_examples(self):
        text = "".join(SECTIONS)
        examples = doctest.DocTestParser().get_doctest(text, {}, "examples", None, 0)
        told = []
        results = doctest.DocTestRunner(verbose=False).run(examples, out=told.append)
        self.assertEqual((results.attempted, results.failed), (text.count(">>> "), 0), "".join(told))


if __name__ == "__main__":
    unittest.main()
