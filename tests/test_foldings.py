"""Foldings: their ways, places and span, assigning and turning: [2], [3], [12] and [14]."""

import unittest

from rodturns.errors import HingeError, RefusedError, RuleError, WaysError
from rodturns.foldings import Folding
from rodturns.rules import Aimed, Bound, Held, Rule
from tests.values import (
    NO_HINGES, NO_RULES, NO_TEXTS, SMALL_RULES, all_ways, is_allowed, plain_places, plain_span, plain_turn,
)

LOCKED = Held(3, 1, 2, 3, straight=(2,))
NO_WAYS = ["", "R", "RRR", "RRRRR", "rrrr", "RRRX", "RRR ", "L" * 300, ["R"] * 4, ("R",) * 4] + NO_TEXTS


def assign_by_method(folding, ways):
    """Assign ways as the method does."""
    return folding.assign(ways)


def assign_by_property(folding, ways):
    """Assign ways to the property."""
    folding.ways = ways


def is_free(rule, ways):
    """Whether a rule allows ways, by its options."""
    return is_allowed(ways, **rule.options())


class FoldingCase(unittest.TestCase):

    def assert_folding(self, folding, rods, ways):
        self.assertIs(type(folding), Folding)
        self.assertEqual(folding.ways, ways)
        self.assertIs(type(folding.ways), str)
        self.assertEqual(folding.places, plain_places(rods, ways))
        self.assertIs(type(folding.places), list)
        self.assertEqual(folding.span, plain_span(rods, ways))
        self.assertIs(type(folding.span), int)

    def assert_refused(self, error, folding, action, *arguments):
        """That an action raises an error and leaves the folding as it was."""
        before = (folding.ways, folding.places, folding.span)
        with self.subTest(ways=folding.ways, arguments=arguments):
            with self.assertRaises(error) as caught:
                action(*arguments)
            self.assertIs(type(caught.exception), error)
            self.assertEqual((folding.ways, folding.places, folding.span), before)


class MadeTest(FoldingCase):

    def test_example(self):
        folding = Folding(Rule(3, 1, 3), "RRL")
        self.assertEqual(folding.places, [0, 3, 4, 1])
        self.assertEqual(folding.span, 4)
        self.assertEqual(Folding(Rule(3, 1, 3), "RLR").span, 5)
        self.assertEqual(Folding(Rule(3, 1, 3), "RRR").span, 7)
        self.assertEqual(Folding(Rule(3, 1, 3), "LLR").places, [0, -3, -4, -1])

    def test_one_rod(self):
        self.assert_folding(Folding(Rule(40), "L"), [40], "L")
        self.assertEqual(Folding(Rule(40), "L").places, [0, -40])
        self.assertEqual(Folding(Rule(40), "R").places, [0, 40])
        self.assertEqual(Folding(Rule(40), "R").span, 40)

    def test_small_rules(self):
        for rule in SMALL_RULES:
            for ways in all_ways(len(rule.rods)):
                if is_free(rule, ways):
                    self.assert_folding(Folding(rule, ways), rule.rods, ways)
                else:
                    with self.subTest(rule=rule.rods, ways=ways), self.assertRaises(RefusedError):
                        Folding(rule, ways)

    def test_twelve_rods(self):
        rods = [40, 1, 39, 2, 38, 3, 37, 4, 36, 5, 35, 6]
        rule = Bound(*rods, straight=(3,), folded=(11,), left=(2,))
        for ways in all_ways(12):
            if is_free(rule, ways):
                self.assert_folding(Folding(rule, ways), rods, ways)
        self.assertEqual(Folding(Rule(*[40] * 12), "R" * 12).span, 480)
        self.assertEqual(Folding(Rule(*[40] * 12), "L" * 12).places, list(range(0, -481, -40)))
        self.assertEqual(Folding(Rule(*[40] * 12), "LR" * 6).span, 40)

    def test_class_below_rule(self):
        class Own(Aimed):
            pass

        self.assert_folding(Folding(Own(3, 1, left=(1,)), "LR"), [3, 1], "LR")
        with self.assertRaises(RefusedError):
            Folding(Own(3, 1, left=(1,)), "RR")

    def test_wrong_rule_comes_first(self):
        for thing in NO_RULES:
            for ways in ["RRRR", "", None, ["R"]]:
                with self.subTest(thing=thing, ways=ways), self.assertRaises(RuleError):
                    Folding(thing, ways)

    def test_wrong_ways(self):
        for thing in NO_WAYS:
            for rule in [LOCKED, Rule(1, 1, 1, 1), Bound(3, 1, 3, 3, folded=(1, 2), right=(1,), left=(3,))]:
                with self.subTest(thing=thing), self.assertRaises(WaysError):
                    Folding(rule, thing)

    def test_equal_to_itself(self):
        folding = Folding(LOCKED, "RRRR")
        self.assertTrue(folding == folding)
        self.assertFalse(folding != folding)
        folding.turn(1)
        self.assertTrue(folding == folding)
        self.assertFalse(folding != folding)

    def test_returned_places_are_new(self):
        folding = Folding(LOCKED, "RLLR")
        places = folding.places
        places[0] = 100
        places.append(-100)
        self.assertEqual(folding.places, [0, 3, 2, 0, 3])
        self.assertIsNot(folding.places, folding.places)
        self.assertEqual((folding.ways, folding.span), ("RLLR", 3))

    def test_rules_and_ways_can_be_shared(self):
        one = Folding(LOCKED, "RLLR")
        other = Folding(LOCKED, "RLLR")
        one.turn(3)
        self.assert_folding(one, [3, 1, 2, 3], "RLLL")
        self.assert_folding(other, [3, 1, 2, 3], "RLLR")
        self.assertEqual((LOCKED.rods, LOCKED.options()), ([3, 1, 2, 3], {"straight": (2,), "folded": ()}))


class AssignTest(FoldingCase):

    def test_every_pair(self):
        for rule in SMALL_RULES:
            allowed = [ways for ways in all_ways(len(rule.rods)) if is_free(rule, ways)]
            for assign in [assign_by_method, assign_by_property]:
                for first in allowed:
                    for last in allowed:
                        folding = Folding(rule, first)
                        self.assertIsNone(assign(folding, last))
                        self.assert_folding(folding, rule.rods, last)

    def test_refused(self):
        for rule in SMALL_RULES:
            everything = all_ways(len(rule.rods))
            allowed = [ways for ways in everything if is_free(rule, ways)]
            for first in allowed[:2]:
                folding = Folding(rule, first)
                for ways in everything:
                    if ways not in allowed:
                        self.assert_refused(RefusedError, folding, assign_by_method, folding, ways)
                        self.assert_refused(RefusedError, folding, assign_by_property, folding, ways)

    def test_wrong_ways(self):
        folding = Folding(LOCKED, "RLLR")
        for thing in NO_WAYS:
            self.assert_refused(WaysError, folding, assign_by_method, folding, thing)
            self.assert_refused(WaysError, folding, assign_by_property, folding, thing)
        self.assert_folding(folding, [3, 1, 2, 3], "RLLR")

    def test_what_cannot_be_assigned(self):
        folding = Folding(LOCKED, "RLLR")
        for name in ["places", "span"]:
            with self.assertRaises(AttributeError):
                setattr(folding, name, 1)


class TurnTest(FoldingCase):

    def test_example(self):
        folding = Folding(Rule(3, 1, 3), "RRL")
        self.assertIsNone(folding.turn(1))
        self.assert_folding(folding, [3, 1, 3], "RLR")
        folding.turn(2)
        self.assert_folding(folding, [3, 1, 3], "RLL")
        folding.turn(2)
        folding.turn(1)
        self.assert_folding(folding, [3, 1, 3], "RRL")

    def test_every_turn(self):
        for rule in SMALL_RULES:
            for ways in all_ways(len(rule.rods)):
                for hinge in range(1, len(rule.rods)):
                    after = plain_turn(ways, hinge)
                    if not is_free(rule, ways):
                        continue
                    folding = Folding(rule, ways)
                    if is_free(rule, after):
                        self.assertIsNone(folding.turn(hinge))
                        self.assert_folding(folding, rule.rods, after)
                    else:
                        self.assert_refused(RefusedError, folding, folding.turn, hinge)

    def test_only_the_state_of_the_hinge_changes(self):
        rule = Rule(*range(1, 13))
        for ways in all_ways(12)[::17]:
            for hinge in range(1, 12):
                folding = Folding(rule, ways)
                folding.turn(hinge)
                self.assertEqual(folding.ways[0], ways[0])
                for k in range(1, 12):
                    before = ways[k - 1] == ways[k]
                    self.assertEqual(folding.ways[k - 1] == folding.ways[k], before != (k == hinge))

    def test_wrong_hinges(self):
        folding = Folding(LOCKED, "RLLR")
        for thing in NO_HINGES + [4, 5]:
            self.assert_refused(HingeError, folding, folding.turn, thing)
        for rule in [Rule(5), Bound(5, left=(1,))]:
            folding = Folding(rule, "L")
            for thing in NO_HINGES + [1, 2]:
                self.assert_refused(HingeError, folding, folding.turn, thing)


class TurnedTest(FoldingCase):

    def test_example(self):
        folding = Folding(Rule(3, 1, 3), "RRL")
        self.assert_folding(folding.turned(1), [3, 1, 3], "RLR")
        self.assert_folding(folding.turned(1, 2), [3, 1, 3], "RLL")
        self.assert_folding(folding.turned(2, 2), [3, 1, 3], "RRL")
        self.assert_folding(folding, [3, 1, 3], "RRL")

    def test_new_folding(self):
        folding = Folding(LOCKED, "RLLR")
        for hinges in [(), (1, 1), (3,)]:
            other = folding.turned(*hinges)
            self.assertIsNot(other, folding)
            other.turn(1)
            other.assign("LLLL")
            self.assert_folding(folding, [3, 1, 2, 3], "RLLR")
        self.assert_refused(RefusedError, folding, folding.turned().assign, "RLRL")

    def test_many_hinges(self):
        folding = Folding(Rule(*[40] * 12), "R" * 12)
        self.assert_folding(folding.turned(*range(1, 12)), [40] * 12, "RL" * 6)
        self.assert_folding(folding.turned(*[11, 3] * 1001), [40] * 12, "RRR" + "L" * 8 + "R")

    def test_every_pair_of_turns(self):
        for rule in SMALL_RULES:
            hinges = range(1, len(rule.rods))
            for ways in all_ways(len(rule.rods)):
                if is_free(rule, ways):
                    for pair in [(one, other) for one in hinges for other in hinges]:
                        self.check_pair(rule, ways, pair)

    def check_pair(self, rule, ways, pair):
        """That two turns lead where they should, or are refused if one folding is not allowed."""
        folding = Folding(rule, ways)
        middle = plain_turn(ways, pair[0])
        last = plain_turn(middle, pair[1])
        if is_free(rule, middle) and is_free(rule, last):
            self.assert_folding(folding.turned(*pair), rule.rods, last)
            self.assertEqual(folding.ways, ways)
        else:
            self.assert_refused(RefusedError, folding, folding.turned, *pair)

    def test_first_impossible_turn(self):
        folding = Folding(LOCKED, "RLLR")
        for thing in NO_HINGES + [4]:
            self.assert_refused(HingeError, folding, folding.turned, thing)
            self.assert_refused(HingeError, folding, folding.turned, 1, thing)
            self.assert_refused(HingeError, folding, folding.turned, 3, 1, thing, 2)
            self.assert_refused(RefusedError, folding, folding.turned, 2, thing)
            self.assert_refused(RefusedError, folding, folding.turned, 1, 2, thing)
        self.assert_refused(RefusedError, folding, folding.turned, 2, 2)
        self.assert_refused(RefusedError, folding, folding.turned, 1, 3, 2, 2)

    def test_same_call_same_answer(self):
        folding = Folding(LOCKED, "RLLR")
        self.assertEqual(folding.turned(1, 3).ways, folding.turned(1, 3).ways)


if __name__ == "__main__":
    unittest.main()
