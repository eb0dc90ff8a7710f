"""A hand: [2], [3], [50] and [51]."""

import random
import unittest

from rodturns.errors import (
    ApartError, CaseError, HingeError, NothingError, RefusedError, RuleError, WaysError, WidthError,
)
from rodturns.hands import Hand
from rodturns.rules import Aimed, Bound, Held, Rule
from rodturns.turning import reach, turns
from tests.values import (
    NARROW_RULES, NO_CASES, NO_HINGES, NO_RULES, NO_WAYS, SMALL_RULES, TWELVE_RULES, all_ways, error_of,
    is_allowed, plain_foldings, plain_reach, plain_span, plain_turn, shortest_turnings,
)

FREE = Rule(3, 1, 3)
# In the case 5 the folding RLR is not allowed, RRR is allowed and too wide.
LOCKED = Held(3, 1, 3, straight=(1,))


class Stop(Exception):
    """An exception that the program does not know."""


def seen(hand):
    """All that a hand tells of itself."""
    return hand.ways, hand.case, hand.changes


def undone(hand):
    """All that a hand tells while all of its changes are taken back, one by one; it has none left then."""
    found = [seen(hand)]
    while hand.changes:
        hand.undo()
        found.append(seen(hand))
    return found


def by_property(name):
    """A function that assigns a value to a property of a hand, as a method would be called."""
    return lambda hand, value: setattr(hand, name, value)


ACTIONS = {
    "assign": Hand.assign, "take": Hand.take, "turn": Hand.turn, "go": Hand.go, "go_to": Hand.go_to,
    "ways": by_property("ways"), "case": by_property("case"), "look": Hand.look,
}


class PlainHand:
    """What a hand must do, with plain searches and a list of all states."""

    def __init__(self, rule, c, ways):
        self.rule = rule
        self.states = [(ways, c)]

    def seen(self):
        return (*self.states[-1], len(self.states) - 1)

    def refusal(self, ways, c):
        """The error for ways of the rule, or None."""
        if not is_allowed(ways, **self.rule.options()):
            return RefusedError
        return WidthError if plain_span(self.rule.rods, ways) > c else None

    def after(self, hinges):
        """The error of the first impossible turn, or None, and the ways after all turns."""
        ways, c = self.states[-1]
        for hinge in hinges:
            if type(hinge) is not int or not 1 <= hinge < len(ways):
                return HingeError, None
            ways = plain_turn(ways, hinge)
            if self.refusal(ways, c) is not None:
                return self.refusal(ways, c), None
        return None, ways

    def act(self, name, *arguments):
        """The error and the answer of an action, after which the states are as they must be."""
        ways, c = self.states[-1]
        if name in ("assign", "ways"):
            error = self.refusal(arguments[0], c)
            return self.change(error, (arguments[0], c), None)
        if name in ("take", "case"):
            if type(arguments[0]) is not int or not 0 <= arguments[0] <= 480:
                return CaseError, None
            return self.change(self.refusal(ways, arguments[0]), (ways, arguments[0]), None)
        if name == "go_to":
            return self.go_to(arguments[0])
        error, last = self.after(arguments)
        if name == "look":
            return error, last
        return self.change(error, (last, c), len(arguments) if name == "go" else None)

    def go_to(self, last):
        ways, c = self.states[-1]
        if self.refusal(last, c) is not None:
            return self.refusal(last, c), None
        taken = set(plain_foldings(self.rule, c))
        found = shortest_turnings(taken, range(1, len(ways)), ways)
        if last not in found:
            return ApartError, tuple(sorted(found))
        return self.change(None, (last, c), min(found[last]))

    def change(self, error, state, answer):
        if error is None:
            self.states.append(state)
            return None, answer
        return error, None


class HandCase(unittest.TestCase):

    def assert_refused(self, error, hand, action, *arguments):
        """That an action raises an error and changes nothing; returns what was raised."""
        before = seen(hand)
        with self.subTest(before=before, arguments=arguments):
            with self.assertRaises(error) as caught:
                action(*arguments)
            self.assertIs(type(caught.exception), error)
            self.assertEqual(seen(hand), before)
            return caught.exception

    def hand_with_changes(self):
        """A hand with four changes, and all that it tells while they are taken back."""
        hand = Hand(FREE, 4, "RRL")
        hand.case = 7
        hand.turn(2)
        hand.go()
        hand.ways = "RLL"
        return hand, [("RLL", 7, 4), ("RRR", 7, 3), ("RRR", 7, 2), ("RRL", 7, 1), ("RRL", 4, 0)]


class MadeTest(HandCase):

    def test_new_hand(self):
        for rule in SMALL_RULES + NARROW_RULES:
            for ways in plain_foldings(rule, 480):
                for c in [plain_span(rule.rods, ways), rule.total, 480]:
                    hand = Hand(rule, c, ways)
                    self.assertEqual(seen(hand), (ways, c, 0))
                    self.assertEqual([type(value) for value in seen(hand)], [str, int, int])

    def test_wrong_arguments(self):
        wrong_ways = [("RR", WaysError), (None, WaysError), (["R"], WaysError), ("RLR", RefusedError)]
        for rule, rule_error in [(LOCKED, None), (None, RuleError), ((3, 1, 3), RuleError)]:
            for c in [5, True, -1, 481, None, "5"]:
                for ways, ways_error in [("RRL", None)] + wrong_ways + [("RRR", WidthError)]:
                    expected = rule_error or (CaseError if c != 5 else None) or ways_error
                    self.assertEqual(error_of(Hand, rule, c, ways), expected)

    def test_every_wrong_value(self):
        for thing in NO_RULES:
            self.assertEqual(error_of(Hand, thing, 5, "RRL"), RuleError)
            self.assertEqual(error_of(Hand, thing, None, None), RuleError)
        for thing in NO_CASES:
            self.assertEqual(error_of(Hand, LOCKED, thing, "RRL"), CaseError)
            self.assertEqual(error_of(Hand, LOCKED, thing, "RR"), CaseError)
        for thing in NO_WAYS:
            self.assertEqual(error_of(Hand, LOCKED, 5, thing), WaysError)
            self.assertEqual(error_of(Hand, LOCKED, 0, thing), WaysError)
        self.assertEqual(error_of(Hand, LOCKED, 0, "RLR"), RefusedError)
        self.assertEqual(error_of(Hand, LOCKED, 3, "RRL"), WidthError)
        self.assertEqual(error_of(Hand, LOCKED, 0, "RRL"), WidthError)

    def test_rule_that_allows_nothing(self):
        rule = Bound(3, 1, 3, folded=(1, 2), right=(1,), left=(3,))
        for ways in all_ways(3):
            self.assertEqual(error_of(Hand, rule, 480, ways), RefusedError)

    def test_one_rod(self):
        hand = Hand(Rule(5), 5, "R")
        self.assertEqual(hand.go(), 0)
        self.assertEqual(hand.look(), "R")
        self.assertEqual(hand.go_to("R"), ())
        self.assertEqual(self.assert_refused(ApartError, hand, hand.go_to, "L").closed, ("R",))
        self.assert_refused(WidthError, hand, hand.take, 4)
        for thing in NO_HINGES + [1, 2]:
            self.assert_refused(HingeError, hand, hand.turn, thing)
        hand.assign("L")
        self.assertEqual(undone(hand), [("L", 5, 3), ("R", 5, 2), ("R", 5, 1), ("R", 5, 0)])

    def test_equal_to_itself(self):
        hand = Hand(FREE, 7, "RRL")
        self.assertTrue(hand == hand)
        self.assertFalse(hand != hand)
        hand.turn(1)
        self.assertTrue(hand == hand)
        self.assertFalse(hand != hand)

    def test_what_cannot_be_assigned(self):
        hand = Hand(FREE, 7, "RRL")
        with self.assertRaises(AttributeError):
            hand.changes = 0
        self.assertEqual(seen(hand), ("RRL", 7, 0))


class AssignTest(HandCase):

    def test_every_pair(self):
        for rule in SMALL_RULES:
            everything = all_ways(len(rule.rods))
            for c in {rule.total, rule.total - 1, rule.total // 2 + 1}:
                taken = plain_foldings(rule, c)
                for first in taken[:3]:
                    for last in everything:
                        for name in ["assign", "ways"]:
                            self.check(rule, c, first, last, name)

    def check(self, rule, c, first, last, name):
        """That ways are assigned or refused."""
        hand = Hand(rule, c, first)
        if not is_allowed(last, **rule.options()):
            self.assert_refused(RefusedError, hand, ACTIONS[name], hand, last)
        elif plain_span(rule.rods, last) > c:
            self.assert_refused(WidthError, hand, ACTIONS[name], hand, last)
        else:
            self.assertIsNone(ACTIONS[name](hand, last))
            self.assertEqual(undone(hand), [(last, c, 1), (first, c, 0)])

    def test_wrong_ways(self):
        hand, states = self.hand_with_changes()
        for thing in NO_WAYS:
            self.assert_refused(WaysError, hand, hand.assign, thing)
            self.assert_refused(WaysError, hand, ACTIONS["ways"], hand, thing)
            self.assert_refused(WaysError, hand, hand.go_to, thing)
        self.assertEqual(undone(hand), states)

    def test_refused_before_too_wide(self):
        hand = Hand(LOCKED, 4, "RRL")
        for action in [hand.assign, hand.go_to, lambda ways: ACTIONS["ways"](hand, ways)]:
            self.assert_refused(RefusedError, hand, action, "RLR")
            self.assert_refused(WidthError, hand, action, "RRR")
            self.assert_refused(WaysError, hand, action, "RRRR")

    def test_assign_needs_no_turning(self):
        hand = Hand(FREE, 4, "RRL")
        hand.assign("LRR")
        hand.ways = "RLL"
        self.assertEqual(undone(hand), [("RLL", 4, 2), ("LRR", 4, 1), ("RRL", 4, 0)])


class TakeTest(HandCase):

    def test_every_case(self):
        for ways in all_ways(3):
            span = plain_span([3, 1, 3], ways)
            for c in range(-3, 485):
                hand = Hand(FREE, 7, ways)
                for name in ["take", "case"]:
                    if not 0 <= c <= 480:
                        self.assert_refused(CaseError, hand, ACTIONS[name], hand, c)
                    elif c < span:
                        self.assert_refused(WidthError, hand, ACTIONS[name], hand, c)
                    else:
                        self.assertIsNone(ACTIONS[name](hand, c))
                        self.assertEqual((hand.ways, hand.case), (ways, c))

    def test_wrong_cases(self):
        hand, states = self.hand_with_changes()
        for thing in NO_CASES:
            self.assert_refused(CaseError, hand, hand.take, thing)
            self.assert_refused(CaseError, hand, ACTIONS["case"], hand, thing)
        for c in [0, 1, 3]:
            self.assert_refused(WidthError, hand, hand.take, c)
            self.assert_refused(WidthError, hand, ACTIONS["case"], hand, c)
        self.assertEqual(undone(hand), states)

    def test_case_counts_for_what_follows(self):
        hand = Hand(FREE, 4, "RRL")
        self.assert_refused(WidthError, hand, hand.turn, 1)
        hand.take(5)
        hand.turn(1)
        self.assert_refused(WidthError, hand, hand.take, 4)
        hand.turn(2)
        hand.case = 4
        self.assert_refused(WidthError, hand, hand.turn, 2)
        self.assertEqual(undone(hand), [("RLL", 4, 4), ("RLL", 5, 3), ("RLR", 5, 2), ("RRL", 5, 1), ("RRL", 4, 0)])


class TurnTest(HandCase):

    def test_every_turn(self):
        for rule in SMALL_RULES + NARROW_RULES:
            for c in [rule.total, rule.total - 2, rule.total // 2 + 1]:
                for ways in plain_foldings(rule, c):
                    for hinge in range(1, len(ways)):
                        self.check(rule, c, ways, hinge)

    def check(self, rule, c, ways, hinge):
        """turn, go and look of one hinge."""
        hand = Hand(rule, c, ways)
        after = plain_turn(ways, hinge)
        if not is_allowed(after, **rule.options()):
            error = RefusedError
        else:
            error = WidthError if plain_span(rule.rods, after) > c else None
        if error is not None:
            for action in [hand.turn, hand.go, hand.look]:
                self.assert_refused(error, hand, action, hinge)
            return
        self.assertEqual(hand.look(hinge), after)
        self.assertEqual(seen(hand), (ways, c, 0))
        self.assertIsNone(hand.turn(hinge))
        self.assertEqual(seen(hand), (after, c, 1))
        self.assertEqual(hand.go(hinge), 1)
        self.assertEqual(undone(hand), [(ways, c, 2), (after, c, 1), (ways, c, 0)])

    def test_wrong_hinges(self):
        hand, states = self.hand_with_changes()
        for thing in NO_HINGES + [3, 4]:
            self.assert_refused(HingeError, hand, hand.turn, thing)
            self.assert_refused(HingeError, hand, hand.go, thing)
            self.assert_refused(HingeError, hand, hand.look, thing)
        self.assertEqual(undone(hand), states)


class GoTest(HandCase):

    def test_no_hinge(self):
        hand = Hand(FREE, 4, "RRL")
        self.assertEqual(hand.go(), 0)
        self.assertIs(type(hand.go()), int)
        self.assertEqual(hand.look(), "RRL")
        self.assertEqual(undone(hand), [("RRL", 4, 2), ("RRL", 4, 1), ("RRL", 4, 0)])

    def test_many_hinges(self):
        hand = Hand(FREE, 5, "RRL")
        self.assertEqual(hand.go(1, 2), 2)
        self.assertEqual(seen(hand), ("RLL", 5, 1))
        self.assertEqual(hand.go(*(2, 1, 1, 2) * 1000, 2), 4001)
        self.assertEqual(seen(hand), ("RLR", 5, 2))
        self.assertEqual(hand.look(*(1, 1, 2, 2) * 1000, 1), "RRL")
        self.assertEqual(undone(hand), [("RLR", 5, 2), ("RLL", 5, 1), ("RRL", 5, 0)])

    def test_wrong_hinge_late_in_the_row(self):
        for action in [Hand.go, Hand.look]:
            hand = Hand(FREE, 5, "RRL")
            hand.go()
            for thing in NO_HINGES + [3]:
                self.assert_refused(HingeError, hand, action, hand, 1, 2, 2, thing)
                self.assert_refused(HingeError, hand, action, hand, 1, thing, 2, thing)
                self.assert_refused(WidthError, hand, action, hand, 2, thing)
                self.assert_refused(WidthError, hand, action, hand, 1, 2, 1, thing)
                self.assert_refused(HingeError, hand, action, hand, thing, 2)
            self.assert_refused(WidthError, hand, action, hand, 2, 2)
            self.assertEqual(undone(hand), [("RRL", 5, 1), ("RRL", 5, 0)])

    def test_first_impossible_turn(self):
        for action in [Hand.go, Hand.look]:
            hand = Hand(LOCKED, 5, "RRL")
            self.assert_refused(RefusedError, hand, action, hand, 1, 2, 0)
            self.assert_refused(WidthError, hand, action, hand, 2, 1, 0)
            self.assert_refused(HingeError, hand, action, hand, 0, 1, 2)
            wide = Hand(LOCKED, 7, "RRL")
            self.assert_refused(RefusedError, wide, action, wide, 2, 1, 0)
            self.assert_refused(HingeError, wide, action, wide, 2, 0, 1)
            self.assert_refused(HingeError, wide, action, wide, 2, 2, True)

    def test_refused_and_too_wide_at_once(self):
        hand = Hand(Held(3, 1, 3, folded=(2,)), 4, "RRL")
        # RRR is not allowed and too wide.
        self.assert_refused(RefusedError, hand, hand.turn, 2)
        self.assert_refused(RefusedError, hand, hand.go, 2)
        self.assert_refused(RefusedError, hand, hand.look, 2)
        self.assert_refused(WidthError, hand, hand.turn, 1)


class GoToTest(HandCase):

    def test_every_pair(self):
        for rule in SMALL_RULES + NARROW_RULES:
            for c in {rule.total, rule.total - 1, rule.total // 2 + 1}:
                taken = plain_foldings(rule, c)
                for first in taken[::3]:
                    found = shortest_turnings(taken, range(1, len(first)), first)
                    for last in taken:
                        self.check(rule, c, first, last, found)

    def check(self, rule, c, first, last, found):
        """go_to to one folding, where found has all shortest turnings from first."""
        hand = Hand(rule, c, first)
        if last in found:
            turning = hand.go_to(last)
            self.assertEqual(turning, min(found[last]))
            self.assertEqual(turning, turns(rule, c, first, last))
            self.assertEqual(undone(hand), [(last, c, 1), (first, c, 0)])
        else:
            raised = self.assert_refused(ApartError, hand, hand.go_to, last)
            self.assertEqual(raised.closed, tuple(sorted(found)))
            self.assertEqual(raised.closed, reach(rule, c, first))
            self.assertIs(type(raised.closed), tuple)

    def test_examples(self):
        hand = Hand(FREE, 5, "RRL")
        self.assertEqual(hand.go_to("RLL"), (1, 2))
        self.assertEqual(hand.go_to("RLL"), ())
        self.assertEqual(seen(hand), ("RLL", 5, 2))
        hand.take(4)
        raised = self.assert_refused(ApartError, hand, hand.go_to, "RRL")
        self.assertEqual(raised.closed, ("RLL",))
        hand.take(5)
        raised = self.assert_refused(ApartError, hand, hand.go_to, "LRR")
        self.assertEqual(raised.closed, ("RLL", "RLR", "RRL"))
        self.assertIn("closed", vars(raised))

    def test_wrong_ways(self):
        hand = Hand(LOCKED, 5, "RRL")
        self.assert_refused(WaysError, hand, hand.go_to, "RR")
        self.assert_refused(RefusedError, hand, hand.go_to, "RLR")
        self.assert_refused(WidthError, hand, hand.go_to, "RRR")
        self.assert_refused(ApartError, hand, hand.go_to, "LLR")

    def test_twelve_rods(self):
        rule = Rule(*[40] * 12)
        hand = Hand(rule, 480, "R" * 12)
        self.assertEqual(hand.go_to("RL" * 6), tuple(range(1, 12)))
        hand.take(40)
        raised = self.assert_refused(ApartError, hand, hand.go_to, "LR" * 6)
        self.assertEqual(raised.closed, ("RL" * 6,))
        self.assertEqual(seen(hand), ("RL" * 6, 40, 2))


class UndoTest(HandCase):

    def test_without_a_change(self):
        hand = Hand(FREE, 4, "RRL")
        for _ in range(2):
            self.assert_refused(NothingError, hand, hand.undo)
        self.assertEqual(hand.go(), 0)
        self.assertIsNone(hand.undo())
        self.assert_refused(NothingError, hand, hand.undo)

    def test_one_by_one(self):
        hand, states = self.hand_with_changes()
        self.assertEqual(undone(hand), states)
        self.assert_refused(NothingError, hand, hand.undo)

    def test_changes_that_make_nothing_different(self):
        hand = Hand(FREE, 5, "RRL")
        hand.assign("RRL")
        hand.ways = "RRL"
        hand.take(5)
        hand.case = 5
        self.assertEqual(hand.go(), 0)
        self.assertEqual(hand.go(1, 1), 2)
        self.assertEqual(hand.go_to("RRL"), ())
        self.assertEqual(undone(hand), [("RRL", 5, many) for many in range(7, -1, -1)])

    def test_changes_after_undo(self):
        hand = Hand(FREE, 5, "RRL")
        hand.turn(1)
        hand.turn(2)
        hand.undo()
        hand.take(6)
        self.assertEqual(seen(hand), ("RLR", 6, 2))
        self.assertEqual(undone(hand), [("RLR", 6, 2), ("RLR", 5, 1), ("RRL", 5, 0)])

    def test_many_changes(self):
        hand = Hand(FREE, 5, "RRL")
        for _ in range(5000):
            hand.turn(1)
            hand.turn(1)
        self.assertEqual(seen(hand), ("RRL", 5, 10000))
        self.assertEqual(len(undone(hand)), 10001)
        self.assertEqual(seen(hand), ("RRL", 5, 0))

    def test_what_is_refused_is_no_change(self):
        hand = Hand(LOCKED, 4, "RRL")
        for action, arguments in [
            (hand.assign, ("RLR",)), (hand.assign, ("RRR",)), (hand.take, (3,)), (hand.turn, (2,)),
            (hand.go, (1,)), (hand.go_to, ("LLR",)), (hand.look, (2,)),
        ]:
            self.assertIsNotNone(error_of(action, *arguments))
            self.assertEqual(hand.changes, 0)
        self.assert_refused(NothingError, hand, hand.undo)


class TryingTest(HandCase):

    def check_kept(self, block, stop=None):
        """That a block of with statement leaves a hand as it was, also what undo leads back to."""
        hand, states = self.hand_with_changes()
        if stop is None:
            with hand.trying():
                block(hand)
        else:
            with self.assertRaises(stop) as caught:
                with hand.trying():
                    block(hand)
            self.assertIs(type(caught.exception), stop)
        self.assertEqual(undone(hand), states)
        self.assert_refused(NothingError, hand, hand.undo)

    def test_left_at_its_end(self):
        def changed(hand):
            hand.case = 480
            self.assertEqual(hand.go(1, 2), 2)
            hand.assign("LLL")
            self.assertEqual(seen(hand), ("LLL", 480, 7))

        self.check_kept(changed)
        self.check_kept(lambda hand: None)
        self.check_kept(lambda hand: hand.take(4))
        self.check_kept(lambda hand: hand.go_to("RRR"))
        self.check_kept(lambda hand: hand.look(1))

    def test_left_by_an_exception(self):
        def stopped(hand):
            hand.take(480)
            hand.turn(2)
            raise Stop("why not")

        def refused(hand):
            hand.take(4)
            hand.turn(2)

        def apart(hand):
            hand.take(5)
            hand.go_to("LRR")

        self.check_kept(stopped, Stop)
        self.check_kept(refused, WidthError)
        self.check_kept(apart, ApartError)
        self.check_kept(lambda hand: hand.go(2, 2, 0), HingeError)
        self.check_kept(lambda hand: undone(hand) + [hand.undo()], NothingError)

    def test_after_undo_of_earlier_changes(self):
        def undone_and_changed(hand):
            self.assertEqual(len(undone(hand)), 5)
            hand.case = 480
            hand.ways = "LLL"

        def all_but_one(hand):
            for _ in range(3):
                hand.undo()
            self.assertEqual(seen(hand), ("RRL", 7, 1))
            hand.turn(1)

        self.check_kept(undone)
        self.check_kept(undone_and_changed)
        self.check_kept(all_but_one)
        self.check_kept(lambda hand: hand.undo())

    def test_after_undo_and_an_exception(self):
        def stopped(hand):
            undone(hand)
            hand.take(480)
            raise Stop

        self.check_kept(stopped, Stop)

    def test_state_when_the_block_is_entered(self):
        hand = Hand(FREE, 5, "RRL")
        block = hand.trying()
        hand.turn(1)
        hand.take(7)
        with block:
            hand.undo()
            hand.undo()
            hand.turn(1)
        self.assertEqual(seen(hand), ("RLR", 7, 2))
        hand.go(2)
        self.assertEqual(undone(hand), [("RLL", 7, 3), ("RLR", 7, 2), ("RLR", 5, 1), ("RRL", 5, 0)])

    def test_blocks_one_inside_another(self):
        hand = Hand(FREE, 5, "RRL")
        hand.turn(1)
        with hand.trying():
            hand.turn(2)
            with hand.trying():
                undone(hand)
                hand.take(480)
            self.assertEqual(seen(hand), ("RLL", 5, 2))
            with self.assertRaises(Stop):
                with hand.trying():
                    hand.undo()
                    raise Stop
            self.assertEqual(seen(hand), ("RLL", 5, 2))
            hand.undo()
            self.assertEqual(seen(hand), ("RLR", 5, 1))
        self.assertEqual(undone(hand), [("RLR", 5, 1), ("RRL", 5, 0)])

    def test_blocks_one_after_another(self):
        hand = Hand(FREE, 5, "RRL")
        for _ in range(3):
            with hand.trying():
                hand.turn(1)
            self.assertEqual(seen(hand), ("RRL", 5, 0))
            hand.go()
            hand.undo()

    def test_left_by_return_and_break(self):
        hand = Hand(FREE, 5, "RRL")

        def returned():
            with hand.trying():
                hand.turn(1)
                return hand.ways

        self.assertEqual(returned(), "RLR")
        for _ in range(2):
            with hand.trying():
                hand.turn(1)
                break
        self.assertEqual(seen(hand), ("RRL", 5, 0))

    def test_trying_alone_changes_nothing(self):
        hand = Hand(FREE, 5, "RRL")
        hand.trying()
        self.assertEqual(seen(hand), ("RRL", 5, 0))

    def test_other_hands_keep_their_changes(self):
        one, other = Hand(FREE, 5, "RRL"), Hand(FREE, 5, "RRL")
        with one.trying():
            one.turn(1)
            other.turn(1)
            other.take(7)
        self.assertEqual(seen(one), ("RRL", 5, 0))
        self.assertEqual(seen(other), ("RLR", 7, 2))


class LookTest(HandCase):

    def test_examples(self):
        hand, states = self.hand_with_changes()
        self.assertEqual(hand.look(), "RLL")
        self.assertEqual(hand.look(2), "RLR")
        self.assertEqual(hand.look(2, 1), "RRL")
        self.assertIs(type(hand.look(1)), str)
        self.assertEqual(hand.look(2), hand.look(2))
        hand.undo()
        self.assertEqual(hand.look(2), "RRL")
        self.assertEqual(undone(hand), states[1:])

    def test_hinge_that_cannot_be_turned(self):
        hand = Hand(LOCKED, 5, "RRL")
        self.assert_refused(RefusedError, hand, hand.look, 1)
        self.assert_refused(WidthError, hand, hand.look, 2)
        self.assert_refused(HingeError, hand, hand.look, 3)
        self.assertEqual(hand.look(), "RRL")
        hand.take(7)
        self.assertEqual(hand.look(2), "RRR")
        self.assert_refused(RefusedError, hand, hand.look, 2, 1)

    def test_in_a_block(self):
        hand = Hand(FREE, 5, "RRL")
        with hand.trying():
            hand.turn(1)
            self.assertEqual(hand.look(2), "RLL")
            self.assertEqual(seen(hand), ("RLR", 5, 1))
        self.assertEqual(hand.look(1), "RLR")


class TwoHandsTest(HandCase):

    def test_over_one_rule(self):
        rule = Bound(3, 1, 3, right=(1,))
        one, other = Hand(rule, 5, "RRL"), Hand(rule, 5, "RRL")
        one.turn(1)
        self.assertEqual((seen(one), seen(other)), (("RLR", 5, 1), ("RRL", 5, 0)))
        other.case = 7
        other.go(2)
        self.assertEqual((seen(one), seen(other)), (("RLR", 5, 1), ("RRR", 7, 2)))
        one.undo()
        self.assert_refused(NothingError, one, one.undo)
        self.assertEqual(undone(other), [("RRR", 7, 2), ("RRL", 7, 1), ("RRL", 5, 0)])
        options = {"straight": (), "folded": (), "right": (1,), "left": ()}
        self.assertEqual((rule.rods, rule.options()), ([3, 1, 3], options))


class RowsOfActionsTest(HandCase):
    """Rows of actions of all kinds, against a plain hand."""

    WRONG = {"turn": NO_HINGES, "take": NO_CASES, "case": NO_CASES}

    def test_small_rules(self):
        chance = random.Random(50)
        for rule in SMALL_RULES + NARROW_RULES:
            if plain_foldings(rule, 480):
                self.check_row(rule, 80, chance)

    def test_rules_of_twelve_rods(self):
        chance = random.Random(51)
        for rule in TWELVE_RULES[2:]:
            self.check_row(rule, 25, chance, names=["assign", "take", "turn", "go", "ways", "case", "look"])

    def check_row(self, rule, many, chance, names=tuple(ACTIONS)):
        """A row of so many actions, and then all undone."""
        allowed = plain_foldings(rule, 480)
        ways = chance.choice(allowed)
        c = chance.randint(plain_span(rule.rods, ways), rule.total)
        hand, plain = Hand(rule, c, ways), PlainHand(rule, c, ways)
        for _ in range(many):
            name = chance.choice(list(names) + ["undo"])
            if name == "undo" and len(plain.states) > 1:
                hand.undo()
                plain.states.pop()
            elif name != "undo":
                self.check_action(hand, plain, name, self.arguments(rule, name, chance))
            self.assertEqual(seen(hand), plain.seen())
        states = [(*state, number) for number, state in enumerate(plain.states)]
        self.assertEqual(undone(hand), states[::-1])

    def check_action(self, hand, plain, name, arguments):
        """One action of both hands."""
        with self.subTest(rods=plain.rule.rods, before=seen(hand), name=name, arguments=arguments):
            error, answer = plain.act(name, *arguments)
            if error is None:
                self.assertEqual(ACTIONS[name](hand, *arguments), answer)
                return
            raised = self.assert_refused(error, hand, ACTIONS[name], hand, *arguments)
            if error is ApartError:
                self.assertEqual(raised.closed, answer)

    def arguments(self, rule, name, chance):
        """Arguments for an action, now and then wrong ones."""
        many = len(rule.rods)
        if name in self.WRONG and chance.random() < 0.1:
            return (chance.choice(self.WRONG[name]),)
        if name in ("assign", "ways", "go_to"):
            rows = all_ways(many) if chance.random() < 0.1 else plain_foldings(rule, 480)
            return (chance.choice(rows),)
        if name in ("take", "case"):
            return (chance.randint(0, rule.total + 1),)
        size = 1 if name == "turn" else chance.choice([0, 1, 1, 2, 3, 5])
        return tuple(chance.randint(1, max(1, many - 1)) for _ in range(size))

    def test_reached_foldings_of_narrow_rules(self):
        for rule in NARROW_RULES:
            for c in range(rule.total // 2, rule.total):
                taken = plain_foldings(rule, c)
                for first in taken[::5]:
                    hand = Hand(rule, c, first)
                    piece = plain_reach(taken, first)
                    for last in taken:
                        expected = None if last in piece else ApartError
                        self.assertEqual(error_of(hand.go_to, last), expected)
                        hand.assign(first)


class ValuesStayTest(HandCase):
    """Values that were returned or handed in, and then changed, change nothing."""

    def test_lists_that_were_refused(self):
        hand = Hand(Aimed(3, 1, 3, right=(1,)), 5, "RRL")
        ways, hinge = ["R", "L", "R"], [1]
        self.assert_refused(WaysError, hand, hand.assign, ways)
        self.assert_refused(HingeError, hand, hand.turn, hinge)
        self.assertEqual((ways, hinge), (["R", "L", "R"], [1]))

    def test_rods_of_the_rule(self):
        rule = Rule(3, 1, 3)
        hand = Hand(rule, 5, "RRL")
        rule.rods.append(40)
        rule.rods[0] = 1
        self.assertEqual(hand.go_to("RLL"), (1, 2))
        self.assertEqual(seen(hand), ("RLL", 5, 1))


if __name__ == "__main__":
    unittest.main()
