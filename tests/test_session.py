"""The short session of the document: [1]."""

import doctest
import unittest

SESSION = """
>>> from rodturns.rules import Rule
>>> from rodturns.turning import turns, reach
>>> from rodturns.joining import joining
>>> from rodturns.pieces import pieces, settled
>>> rule = Rule(3, 1, 3)
>>> turns(rule, 4, 'RRL', 'RLL') is None
True
>>> reach(rule, 4, 'RRL')
('RRL',)
>>> turns(rule, 5, 'RRL', 'RLL')
(1, 2)
>>> joining(rule, 'RRL', 'RLL')
(5, (1, 2), ('RRL',))
>>> pieces(rule, 5)
(('LLR', 'LRL', 'LRR'), ('RLL', 'RLR', 'RRL'))
>>> settled(rule)
5
"""


class SessionTest(unittest.TestCase):

    def test_session(self):
        test = doctest.DocTestParser().get_doctest(SESSION, {}, "session", None, 0)
        self.assertEqual(len(test.examples), 11)
        told = []
        doctest.DocTestRunner().run(test, out=told.append)
        self.assertEqual("".join(told), "")


if __name__ == "__main__":
    unittest.main()
