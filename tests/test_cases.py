"""Cases and the foldings that they take: [2], [3] and [15]."""

import inspect
import unittest

from rodturns.cases import fits, foldings, shortest
from rodturns.errors import CaseError, RuleError
from rodturns.rules import Aimed, Bound, Held, Rule
from tests.values import NO_CASES, NO_RULES, SMALL_RULES, all_ways, is_allowed, plain_foldings, plain_span

NOTHING = [
    Bound(3, 1, straight=(1,), right=(1,), left=(2,)),
    Bound(3, 1, 3, folded=(1,), right=(1, 2)),
    Bound(3, 1, 3, folded=(1, 2), right=(1,), left=(3,)),
]
TWELVE = [
    Rule(*range(1, 13)),
    Held(*[40] * 12, straight=(1, 5), folded=(11,)),
    Aimed(*[1] * 12, right=(12,), left=(4, 6)),
    Bound(40, 1, 39, 2, 38, 3, 37, 4, 36, 5, 35, 6, straight=(3,), right=(12,)),
]


def plain_shortest(rule):
    """The least span of an allowed folding, and the first folding that has it; or None."""
    found = None
    for ways in plain_foldings(rule, 480):
        span = plain_span(rule.rods, ways)
        if found is None or span < found[0]:
            found = (span, ways)
    return found


class FoldingsTest(unittest.TestCase):

    def test_example(self):
        self.assertEqual(list(foldings(Rule(3, 1, 3), 4)), ["LLR", "LRR", "RLL", "RRL"])
        self.assertEqual(list(foldings(Rule(3, 1, 3), 5)), ["LLR", "LRL", "LRR", "RLL", "RLR", "RRL"])
        self.assertEqual(list(foldings(Rule(3, 1, 3), 3)), [])

    def test_generator(self):
        self.assertTrue(inspect.isgenerator(foldings(Rule(3, 1, 3), 4)))
        found = foldings(Rule(3, 1, 3), 4)
        self.assertEqual(next(found), "LLR")
        self.assertEqual(list(found), ["LRR", "RLL", "RRL"])

    def test_small_rules_in_every_case(self):
        for rule in SMALL_RULES:
            for c in list(range(rule.total + 2)) + [479, 480]:
                expected = plain_foldings(rule, c)
                self.assertEqual(list(foldings(rule, c)), expected)
                self.assertEqual(fits(rule, c), expected[0] if expected else None)

    def test_total_takes_all_that_is_allowed(self):
        for rule in SMALL_RULES + TWELVE:
            allowed = [ways for ways in all_ways(len(rule.rods)) if is_allowed(ways, **rule.options())]
            for c in {rule.total, 480}:
                self.assertEqual(list(foldings(rule, c)), allowed)
        self.assertEqual(len(list(foldings(TWELVE[0], 78))), 4096)
        self.assertEqual(len(list(foldings(TWELVE[0], 77))), 4094)

    def test_twelve_rods(self):
        for rule in TWELVE:
            for c in [0, 11, 12, 13, 20, 40, 41, 80]:
                self.assertEqual(list(foldings(rule, c)), plain_foldings(rule, c))

    def test_span_and_one_less(self):
        for rule in SMALL_RULES:
            for ways in plain_foldings(rule, 480):
                span = plain_span(rule.rods, ways)
                self.assertIn(ways, list(foldings(rule, span)))
                self.assertNotIn(ways, list(foldings(rule, span - 1)))

    def test_one_rod(self):
        self.assertEqual(list(foldings(Rule(40), 40)), ["L", "R"])
        self.assertEqual(list(foldings(Rule(40), 39)), [])
        self.assertEqual(list(foldings(Aimed(40, right=(1,)), 480)), ["R"])
        self.assertEqual(list(foldings(Rule(1), 0)), [])

    def test_rule_that_allows_nothing(self):
        for rule in NOTHING:
            for c in [0, 4, 7, 480]:
                self.assertEqual(list(foldings(rule, c)), [])
                self.assertIsNone(fits(rule, c))
            self.assertIsNone(shortest(rule))

    def test_errors_when_first_iterated(self):
        for rule, c, error in [(None, 4, RuleError), (Rule(1), -1, CaseError), ("3-1-3", True, RuleError)]:
            found = foldings(rule, c)
            with self.assertRaises(error):
                next(found)

    def test_wrong_arguments(self):
        for function in [lambda rule, c: list(foldings(rule, c)), fits]:
            for thing in NO_CASES:
                for rule in [Rule(3, 1, 3), NOTHING[0]]:
                    with self.subTest(thing=thing), self.assertRaises(CaseError):
                        function(rule, thing)
            for thing in NO_RULES:
                for c in [4, None, True, 481]:
                    with self.subTest(thing=thing, c=c), self.assertRaises(RuleError):
                        function(thing, c)

    def test_same_call_same_answer(self):
        rule = Held(3, 1, 3, straight=(1,))
        found = list(foldings(rule, 4))
        found.append("RRR")
        self.assertEqual(list(foldings(rule, 4)), ["LLR", "RRL"])
        self.assertEqual((rule.rods, rule.options()), ([3, 1, 3], {"straight": (1,), "folded": ()}))


class ShortestTest(unittest.TestCase):

    def test_examples(self):
        self.assertEqual(shortest(Rule(3, 1, 3)), (4, "LLR"))
        self.assertEqual(shortest(Held(3, 1, 3, straight=(1, 2))), (7, "LLL"))
        self.assertEqual(shortest(Aimed(3, 1, 3, right=(1,))), (4, "RLL"))
        self.assertEqual(shortest(Rule(40)), (40, "L"))
        self.assertEqual(shortest(Held(*[40] * 12, straight=tuple(range(1, 12)))), (480, "L" * 12))
        self.assertEqual(shortest(Rule(*[1] * 12)), (1, "LR" * 6))

    def test_every_rule(self):
        for rule in SMALL_RULES + TWELVE:
            found = shortest(rule)
            self.assertEqual(found, plain_shortest(rule))
            if found is not None:
                self.assertIs(type(found), tuple)
                self.assertEqual(fits(rule, found[0]), found[1])
                self.assertIsNone(fits(rule, found[0] - 1))

    def test_wrong_rule(self):
        for thing in NO_RULES:
            with self.subTest(thing=thing), self.assertRaises(RuleError):
                shortest(thing)


if __name__ == "__main__":
    unittest.main()
