"""The examples of the document, word for word."""

import doctest
import unittest

VALUES = """
>>> from namedabove.base.cutters import Cutter
>>> ALL = Cutter("all")
>>> LAST = Cutter("..+")
>>> TWO = Cutter("..++")
>>> FIRST = Cutter("+..")
"""

CUTTERS = """
>>> [Cutter("+..-++")(("a", "b", "c", "d")), (TWO >> FIRST).places(5), TWO >> TWO == TWO, str(FIRST >> LAST)]
[('a', 'c', 'd'), (3,), True, '+.. > ..+']
>>> [Cutter("+-..") == FIRST, Cutter("++..+++").parting(ALL), LAST.is_within(TWO), Cutter("++..", "..+").places(1)]
[True, (6, 2), True, (0,)]
"""

EXAMPLES = VALUES + CUTTERS


class Examples(unittest.TestCase):
    def test_examples(self):
        examples = doctest.DocTestParser().get_doctest(EXAMPLES, {}, "examples", None, 0)
        told = []
        results = doctest.DocTestRunner(verbose=False).run(examples, out=told.append)
        self.assertEqual((results.attempted, results.failed), (7, 0), "".join(told))


if __name__ == "__main__":
    unittest.main()
