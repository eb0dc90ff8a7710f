"""The least case that joins two foldings: [2], [3], [30] and [31]."""

import copy
import unittest
from functools import lru_cache
from itertools import product

from rodturns.errors import RefusedError, RuleError, WaysError
from rodturns.joining import is_joining, joining
from rodturns.rules import Aimed, Bound, Held, Rule
from rodturns.turning import is_closed, is_turning, reach, turns
from tests.values import (
    NARROW_RULES, NO_CASES, NO_INTEGERS, NO_RULES, NO_TEXTS, NO_WAYS, SMALL_RULES, TWELVE_RULES, all_ways,
    error_of, is_allowed, plain_foldings, plain_reach, plain_span, plain_turn, shortest_turnings, spans_of,
)

NOTHING = Bound(3, 1, 3, folded=(1, 2), right=(1,), left=(3,))
# Two pairs of foldings of this rule are joined only in the case 5, while the case 4 takes both.
NARROW = Rule(3, 1, 3)
RULES = SMALL_RULES + NARROW_RULES


def plain_joinings(rule, first):
    """What joining from first to each folding is: a search by layers in each case that is a span."""
    found = {}
    hinges = range(1, len(rule.rods))
    for c in spans_of(rule):
        taken = plain_foldings(rule, c)
        if first in taken:
            turnings = shortest_turnings(taken, hinges, first)
            before = plain_foldings(rule, c - 1)
            for last in turnings:
                if last not in found:
                    both = first in before and last in before
                    closed = plain_reach(before, first) if both else None
                    found[last] = (c, min(turnings[last]), closed)
    return found


@lru_cache(maxsize=None)
def taken_by(rule, c):
    """The ways of all foldings that a case takes, kept for the next time."""
    return tuple(plain_foldings(rule, c))


def plain_closed(taken, thing):
    """Whether any value is a closed tuple among foldings that are taken, turn by turn."""
    if type(thing) is not tuple or any(type(ways) is not str or ways not in taken for ways in thing):
        return False
    if list(thing) != sorted(set(thing)):
        return False
    after = {plain_turn(ways, hinge) for ways in thing for hinge in range(1, len(ways))}
    return all(ways in thing for ways in after if ways in taken)


def plain_is_joining(rule, first, last, thing):
    """Whether any value shows the least case, as the document says it, part by part."""
    if type(thing) is not tuple or len(thing) != 3:
        return False
    c, turning, closed = thing
    if type(c) is not int or c not in range(481) or type(turning) is not tuple:
        return False
    taken, before = taken_by(rule, c), taken_by(rule, c - 1)
    at = first
    row = [at]
    for hinge in turning:
        if type(hinge) is not int or hinge not in range(1, len(first)):
            return False
        at = plain_turn(at, hinge)
        row.append(at)
    if at != last or any(ways not in taken for ways in row):
        return False
    if first not in before or last not in before:
        return closed is None
    return plain_closed(before, closed) and first in closed and last not in closed


def widest(rule, first):
    """The least case for each folding that is joined with first, improved until nothing changes."""
    spans = {ways: plain_span(rule.rods, ways) for ways in plain_foldings(rule, 480)}
    least = {first: spans[first]}
    todo = [first]
    while todo:
        ways = todo.pop()
        for hinge in range(1, len(ways)):
            other = plain_turn(ways, hinge)
            if other in spans and max(least[ways], spans[other]) < least.get(other, 481):
                least[other] = max(least[ways], spans[other])
                todo.append(other)
    return least


def pairs_of(rule):
    """All pairs of foldings that a rule allows."""
    allowed = plain_foldings(rule, 480)
    return [(first, last) for first in allowed for last in allowed]


class JoiningTest(unittest.TestCase):

    def test_examples(self):
        self.assertEqual(joining(NARROW, "RRL", "RLL"), (5, (1, 2), ("RRL",)))
        self.assertEqual(joining(NARROW, "RLL", "RRL"), (5, (2, 1), ("RLL",)))
        self.assertEqual(joining(NARROW, "RRL", "RLR"), (5, (1,), None))
        self.assertEqual(joining(NARROW, "RRL", "RRR"), (7, (2,), None))
        self.assertEqual(joining(NARROW, "RRL", "RRL"), (4, (), None))
        self.assertIsNone(joining(NARROW, "RRL", "LLR"))

    def test_detour(self):
        rule = Rule(1, 2, 1, 3)
        self.assertEqual(joining(rule, "RRLL", "RRRL"), (4, (1, 3, 2, 1), None))
        self.assertIs(is_joining(rule, "RRLL", "RRRL", (5, (3, 2), None)), False)

    def test_every_pair(self):
        for rule in RULES:
            for first in plain_foldings(rule, 480):
                expected = plain_joinings(rule, first)
                for last in plain_foldings(rule, 480):
                    with self.subTest(rods=rule.rods, options=rule.options(), first=first, last=last):
                        self.check(rule, first, last, expected.get(last))

    def check(self, rule, first, last, expected):
        """joining and is_joining of one pair."""
        found = joining(rule, first, last)
        self.assertEqual(found, expected)
        if expected is None:
            for thing in [None, (480, (), None), (480, (), (first,)), (480, None, None)]:
                self.assertIs(is_joining(rule, first, last, thing), False)
            return
        c, turning, closed = found
        self.assertEqual([type(found), type(c), type(turning)], [tuple, int, tuple])
        self.assertIs(is_joining(rule, first, last, found), True)
        self.assertEqual(turns(rule, c, first, last), turning)
        both = max(plain_span(rule.rods, first), plain_span(rule.rods, last)) <= c - 1
        self.assertEqual(closed is None, not both)
        if both:
            self.assertIs(type(closed), tuple)
            self.assertEqual(reach(rule, c - 1, first), closed)
            self.assertIs(is_closed(rule, c - 1, closed), True)
            self.assertIn(first, closed)
            self.assertNotIn(last, closed)

    def test_both_kinds_of_case_before_occur(self):
        kinds = {True: 0, False: 0, None: 0}
        for rule in RULES:
            for first, last in pairs_of(rule):
                found = joining(rule, first, last)
                kinds[None if found is None else found[2] is None] += 1
        self.assertGreater(min(kinds.values()), 50)

    def test_equal_foldings(self):
        for rule in RULES + TWELVE_RULES[::2]:
            for ways in plain_foldings(rule, 480)[::401 if len(rule.rods) == 12 else 3]:
                span = plain_span(rule.rods, ways)
                self.assertEqual(joining(rule, ways, ways), (span, (), None))
                self.assertIs(is_joining(rule, ways, ways, (span, (), None)), True)
                for thing in [(span + 1, (), None), (span + 1, (), (ways,)), (span - 1, (), None), (span, (), ())]:
                    self.assertIs(is_joining(rule, ways, ways, thing), False)

    def test_one_rod(self):
        for rule in [Rule(5), Held(5), Aimed(5), Bound(5)]:
            self.assertEqual(joining(rule, "L", "L"), (5, (), None))
            self.assertEqual(joining(rule, "R", "R"), (5, (), None))
            self.assertIsNone(joining(rule, "L", "R"))
            self.assertIs(is_joining(rule, "L", "R", (5, (), None)), False)
            self.assertIs(is_joining(rule, "L", "L", (5, (1, 1), None)), False)

    def test_joined_in_no_case(self):
        self.assertIsNone(joining(Aimed(3, 1, 3, left=(3,)), "RRL", "RLL"))
        self.assertIsNone(joining(Aimed(3, 1, 3, left=(3,)), "RRL", "LLL"))
        self.assertIsNone(joining(Aimed(3, 1, 3, right=(2,)), "LRL", "RRL"))
        rule = Aimed(1, 2, 3, 2, left=(1,), right=(4,))
        self.assertIsNone(joining(rule, "LLLR", "LRRR"))
        self.assertIs(is_joining(rule, "LLLR", "LRRR", (480, (1, 3), ("LLLR",))), False)

    def test_least_and_greatest_case(self):
        self.assertEqual(joining(Rule(1), "R", "R"), (1, (), None))
        rule = Rule(*[40] * 12)
        self.assertEqual(joining(rule, "R" * 12, "RL" * 6), (480, tuple(range(1, 12)), None))
        self.assertIs(is_joining(rule, "R" * 12, "RL" * 6, (480, tuple(range(11, 0, -1)), None)), True)
        self.assertIs(is_joining(rule, "R" * 12, "RL" * 6, (481, tuple(range(1, 12)), None)), False)
        self.assertIs(is_joining(Rule(1), "R", "R", (0, (), None)), False)

    def test_rules_of_twelve_rods(self):
        for rule in TWELVE_RULES:
            allowed = plain_foldings(rule, 480)
            allowed = sorted(allowed, key=lambda ways: plain_span(rule.rods, ways))
            for first in [allowed[0], allowed[len(allowed) // 2]]:
                least = widest(rule, first)
                for last in allowed[::max(1, len(allowed) // 9)]:
                    with self.subTest(rods=rule.rods, first=first, last=last):
                        self.check_long(rule, first, last, least.get(last))

    def check_long(self, rule, first, last, c):
        """joining, where c is the least case or None."""
        found = joining(rule, first, last)
        if c is None:
            self.assertIsNone(found)
            return
        turning = turns(rule, c, first, last)
        closed = None
        if max(plain_span(rule.rods, first), plain_span(rule.rods, last)) < c:
            closed = reach(rule, c - 1, first)
        self.assertEqual(found, (c, turning, closed))
        self.assertIs(is_joining(rule, first, last, found), True)


class WholeProgramTest(unittest.TestCase):
    """[31]."""

    def test_both_directions(self):
        for rule in RULES:
            for first, last in pairs_of(rule):
                there, back = joining(rule, first, last), joining(rule, last, first)
                self.assertEqual(there is None, back is None)
                if there is not None:
                    self.assertEqual(there[0], back[0])
                    self.assertIs(is_turning(rule, there[0], last, first, there[1][::-1]), True)
                    self.assertIs(is_turning(rule, there[0], first, last, back[1][::-1]), True)
                    self.assertIs(is_joining(rule, last, first, (there[0], there[1][::-1], back[2])), True)
                    self.assertEqual(there[2] is None, back[2] is None)

    def test_three_foldings(self):
        for rule in RULES:
            allowed = plain_foldings(rule, 480)
            cases = {pair: joining(rule, *pair) for pair in pairs_of(rule)}
            for one, other, third in product(allowed, repeat=3):
                if cases[one, other] is not None and cases[other, third] is not None:
                    self.assertLessEqual(cases[one, third][0], max(cases[one, other][0], cases[other, third][0]))

    def test_doubled_lengths(self):
        for rule in RULES + [Bound(20, 1, 19, 20, 7, folded=(4,)), Rule(20, 3, 4, 20)]:
            if max(rule.rods) <= 20:
                doubled = type(rule)(*[2 * length for length in rule.rods], **rule.options())
                for first, last in pairs_of(rule):
                    found = joining(rule, first, last)
                    expected = found if found is None else (2 * found[0], found[1], found[2])
                    self.assertEqual(joining(doubled, first, last), expected)


class IsJoiningTest(unittest.TestCase):
    """Right values that have been changed, against the plain definition."""

    CHOSEN = [
        Rule(3, 1, 3), Rule(5, 1, 1, 5), Rule(1, 2, 1, 3), Held(5, 1, 1, 5, straight=(2,)),
        Aimed(1, 4, 1, 1, 4, left=(1,)), Bound(4, 1, 1, 1, 4, folded=(2,), right=(1,)),
    ]

    def changed_parts(self, rule, found):
        """For each part of a right value, itself and many others in its place."""
        c, turning, closed = found
        allowed = plain_foldings(rule, 480)
        cases = [c, c - 1, c + 1, 0, 480, 481, -1, True, False, None, str(c), (c,), [c]]
        turnings = [turning, turning[::-1], turning + turning[::-1] + turning, turning[1:], turning[:-1]]
        turnings += [turning + (hinge, hinge) for hinge in range(0, len(rule.rods) + 1)] + [(1, 1) + turning]
        turnings += [list(turning), None, True, "", (True,) * 2 + turning, turning + ([],), dict.fromkeys(turning)]
        turnings += [tuple(True if hinge == 1 else hinge for hinge in turning)]
        row = closed or ()
        tuples = [closed, row, row[::-1], row[1:], row[:-1], row + row, row + row[-1:], list(row), None, (), True, 0]
        tuples += [tuple(sorted(set(row) ^ {ways})) for ways in allowed]
        tuples += [reach(rule, c, ways) for ways in allowed if plain_span(rule.rods, ways) <= c]
        tuples += [reach(rule, c - 1, ways) for ways in allowed if plain_span(rule.rods, ways) <= c - 1]
        tuples += [tuple(plain_foldings(rule, c - 1)), "".join(row), (None,), ([],), ({},) + row, row + (True,)]
        return cases, turnings, tuples

    def test_one_part_changed(self):
        for rule in self.CHOSEN:
            for first, last in pairs_of(rule)[::3]:
                found = joining(rule, first, last)
                if found is None:
                    continue
                parts = self.changed_parts(rule, found)
                for at in range(3):
                    for part in parts[at]:
                        self.check(rule, first, last, found[:at] + (part,) + found[at + 1:])

    def test_two_parts_changed(self):
        for rule in self.CHOSEN[:3]:
            for first, last in pairs_of(rule)[::17]:
                found = joining(rule, first, last)
                if found is not None:
                    cases, turnings, tuples = self.changed_parts(rule, found)
                    for thing in product(cases[:5], turnings[:6], tuples):
                        self.check(rule, first, last, thing)

    def test_parts_exchanged_left_out_or_added(self):
        for rule in self.CHOSEN:
            for first, last in pairs_of(rule)[::3]:
                found = joining(rule, first, last)
                if found is not None:
                    c, turning, closed = found
                    things = [
                        list(found), found[::-1], (c, closed, turning), (turning, c, closed), (closed, turning, c),
                        (c, turning), (c, closed), (turning, closed), (c,), (), found + (None,), found + found,
                        (found,), (c, turning, closed, closed), {0: c, 1: turning, 2: closed}, c, turning, closed,
                        str(found), None, True,
                    ]
                    for thing in things:
                        self.assertIs(is_joining(rule, first, last, thing), False, thing)

    def check(self, rule, first, last, thing):
        """is_joining against the plain definition, which also leaves the value as it is."""
        kept = copy.deepcopy(thing)
        with self.subTest(rods=rule.rods, first=first, last=last, thing=thing):
            self.assertIs(is_joining(rule, first, last, thing), plain_is_joining(rule, first, last, thing))
            self.assertEqual(thing, kept)

    def test_other_right_values(self):
        self.assertIs(is_joining(NARROW, "RRL", "RLL", (5, (1, 2, 2, 2), ("RRL",))), True)
        self.assertIs(is_joining(NARROW, "RRL", "RLL", (5, (1, 1, 1, 2), ("LLR", "LRR", "RRL"))), True)
        self.assertIs(is_joining(NARROW, "RRL", "RRL", (4, (), None)), True)
        self.assertIs(is_joining(NARROW, "RRL", "RLL", (5, (1, 2), ("RLL", "RRL"))), False)
        self.assertIs(is_joining(NARROW, "RRL", "RLL", (5, (1, 2), ("RLL",))), False)
        self.assertIs(is_joining(NARROW, "RRL", "RLL", (5, (1, 2), ())), False)
        self.assertIs(is_joining(NARROW, "RRL", "RLL", (5, (1, 2), None)), False)
        self.assertIs(is_joining(NARROW, "RRL", "RLL", (5, (1, 2), ["RRL"])), False)
        self.assertIs(is_joining(NARROW, "RRL", "RLL", (5, [1, 2], ("RRL",))), False)
        self.assertIs(is_joining(NARROW, "RRL", "RLL", (5, (True, 2), ("RRL",))), False)
        self.assertIs(is_joining(NARROW, "RRL", "RLL", (7, (1, 2), ("RRL",))), False)
        self.assertIs(is_joining(NARROW, "RRL", "RLL", (7, (2, 1), ("RRL",))), False)

    def test_true_in_the_place_of_the_case_one(self):
        for rule, first, last, turning in [(Rule(1), "R", "R", ()), (Rule(1, 1), "RL", "RL", ())]:
            self.assertIs(is_joining(rule, first, last, (1, turning, None)), True)
            self.assertIs(is_joining(rule, first, last, (True, turning, None)), False)
        self.assertIs(is_joining(Rule(1, 1), "RL", "RR", (2, (1,), None)), True)
        self.assertIs(is_joining(Rule(1, 1), "RL", "RR", (2, (True,), None)), False)

    def test_values_that_are_nothing_of_the_kind(self):
        for thing in NO_INTEGERS + NO_TEXTS + NO_CASES:
            for value in [thing, (thing,), (thing, (1, 2), ("RRL",)), (5, thing, ("RRL",)), (5, (1, 2), thing)]:
                if value != (5, (1, 2), ("RRL",)):
                    self.assertIs(is_joining(NARROW, "RRL", "RLL", value), False, value)


class WrongArgumentsTest(unittest.TestCase):

    RULE = Held(3, 1, 3, straight=(1,))

    def calls(self, rule, first, last):
        """The errors of both functions, of is_joining also beside wrong things."""
        found = [error_of(joining, rule, first, last)]
        for thing in [(4, (), None), None, [], (True, 1), (481, None, {})]:
            found.append(error_of(is_joining, rule, first, last, thing))
        return set(found)

    def test_alone_and_together(self):
        rules = [(self.RULE, None), (None, RuleError), ((3, 1, 3), RuleError)]
        ways = [("RRL", None), ("RR", WaysError), (None, WaysError), (["R"], WaysError), ("RLR", RefusedError)]
        for rule, first, last in product(rules, ways, ways):
            expected = rule[1] or first[1] or last[1]
            with self.subTest(rule=rule, first=first, last=last):
                self.assertEqual(self.calls(rule[0], first[0], last[0]), {expected})

    def test_every_wrong_value(self):
        for thing in NO_RULES:
            self.assertEqual(self.calls(thing, "RRL", "RRL"), {RuleError})
        for thing in NO_WAYS:
            self.assertEqual(self.calls(self.RULE, thing, "RRL"), {WaysError})
            self.assertEqual(self.calls(self.RULE, "RRL", thing), {WaysError})
        for ways in all_ways(3):
            expected = None if is_allowed(ways, straight=(1,)) else RefusedError
            self.assertEqual(self.calls(self.RULE, ways, "RRL"), {expected})
            self.assertEqual(self.calls(self.RULE, "RRL", ways), {expected})

    def test_rule_that_allows_nothing(self):
        for first, last in product(all_ways(3), repeat=2):
            self.assertEqual(self.calls(NOTHING, first, last), {RefusedError})
        self.assertEqual(self.calls(NOTHING, "RR", "RRL"), {WaysError})
        self.assertEqual(self.calls(NOTHING, "RRL", "RR"), {RefusedError})

    def test_same_call_same_answer(self):
        rule = Bound(3, 1, 3, right=(1,))
        options = rule.options()
        for _ in range(2):
            self.assertEqual(joining(rule, "RRL", "RLL"), (5, (1, 2), ("RRL",)))
            self.assertIs(is_joining(rule, "RRL", "RLL", (5, (1, 2), ("RRL",))), True)
        self.assertEqual((rule.rods, rule.options()), ([3, 1, 3], options))


if __name__ == "__main__":
    unittest.main()
