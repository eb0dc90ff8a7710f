"""Turnings and closed tuples inside a case: [2], [3], [20], [21], [22] and [23]."""

import unittest
from itertools import permutations

from rodturns.rules import Aimed, Bound, Held, Rule
from rodturns.turning import direct, is_closed, is_turning, many_turnings, reach, turns
from tests.values import (
    NO_INTEGERS, NO_TEXTS, SMALL_RULES, all_stills, plain_foldings, plain_span, plain_turn, shortest_turnings,
)

NO_TUPLES = [thing for thing in NO_INTEGERS + NO_TEXTS if not isinstance(thing, tuple)]


def plain_is_turning(taken, first, last, thing, still=()):
    """Whether any value is a turning among foldings that are taken, step by step."""
    if type(thing) is not tuple:
        return False
    for hinge in thing:
        if type(hinge) is not int or hinge not in range(1, len(first)) or hinge in still:
            return False
        first = plain_turn(first, hinge)
        if first not in taken:
            return False
    return first == last


def plain_is_closed(taken, thing, still=()):
    """Whether any value is a closed tuple among foldings that are taken, turn by turn."""
    if type(thing) is not tuple or any(type(ways) is not str or ways not in taken for ways in thing):
        return False
    if list(thing) != sorted(set(thing)):
        return False
    for ways in thing:
        for hinge in range(1, len(ways)):
            other = plain_turn(ways, hinge)
            if hinge not in still and other in taken and other not in thing:
                return False
    return True


def changed_hinges(first, last):
    """The hinges with another state in last than in first."""
    return [k for k in range(1, len(first)) if (first[k - 1] == first[k]) != (last[k - 1] == last[k])]


def plain_direct(taken, first, last):
    """The first order in which turning each changed hinge once is a turning, out of all orders; or None."""
    for order in permutations(changed_hinges(first, last)):
        if plain_is_turning(taken, first, last, order):
            return order
    return None


def changed(row, others):
    """A tuple with a part added (also twice), left out, repeated, exchanged or replaced, and other kinds of it."""
    found = [row, list(row), row[::-1], row + row, (row,), dict(enumerate(row)), str(row)]
    for at in range(len(row) + 1):
        found += [row[:at] + (other,) * many + row[at:] for other in others for many in (1, 2)]
        found += [row[:at] + (other,) + row[at + 1:] for other in others]
        found += [row[:at] + row[at + 1:], row[:at] + row[at:at + 1] + row[at:]]
        found += [row[:at] + (row[at:at + 1],) + row[at + 1:], row[:at] + row[at:at + 2][::-1] + row[at + 2:]]
    return found


def spans_of_case(rule):
    """The cases in which the foldings of a rule differ, one less than each, and the ends."""
    spans = {plain_span(rule.rods, ways) for ways in plain_foldings(rule, 480)}
    return sorted(spans | {span - 1 for span in spans} | {0, rule.total, 480})


class ExampleTest(unittest.TestCase):

    def test_short_session(self):
        rule = Rule(3, 1, 3)
        self.assertIsNone(turns(rule, 4, "RRL", "RLL"))
        self.assertEqual(reach(rule, 4, "RRL"), ("RRL",))
        self.assertEqual(turns(rule, 5, "RRL", "RLL"), (1, 2))
        self.assertEqual(reach(rule, 5, "RRL"), ("RLL", "RLR", "RRL"))

    def test_other_examples(self):
        rule = Rule(3, 1, 3)
        self.assertEqual(many_turnings(rule, 5, "RRL", "RLL"), 1)
        self.assertEqual(many_turnings(rule, 7, "RRL", "RLL"), 2)
        self.assertEqual(many_turnings(rule, 4, "RRL", "RLL"), 0)
        self.assertEqual(direct(rule, 5, "RRL", "RLL"), (1, 2))
        self.assertIsNone(direct(rule, 4, "RRL", "RLL"))
        self.assertIs(is_turning(rule, 5, "RRL", "RLL", (1, 2)), True)
        self.assertIs(is_turning(rule, 5, "RRL", "RLL", (2, 1)), False)
        self.assertIs(is_turning(rule, 7, "RRL", "RLL", (2, 1)), True)
        self.assertIs(is_turning(rule, 5, "RRL", "RLL", (1, 1, 1, 2)), True)
        self.assertIs(is_closed(rule, 4, ("RRL",)), True)
        self.assertIs(is_closed(rule, 5, ("RRL",)), False)

    def test_detour(self):
        rule = Rule(1, 2, 1, 3)
        self.assertEqual(changed_hinges("RRLL", "RRRL"), [2, 3])
        self.assertEqual(turns(rule, 4, "RRLL", "RRRL"), (1, 3, 2, 1))
        self.assertEqual(many_turnings(rule, 4, "RRLL", "RRRL"), 1)
        self.assertIsNone(direct(rule, 4, "RRLL", "RRRL"))
        self.assertEqual(turns(rule, 5, "RRLL", "RRRL"), (3, 2))
        self.assertEqual(direct(rule, 5, "RRLL", "RRRL"), (3, 2))


class EveryPairTest(unittest.TestCase):
    """Small rules in all cases that matter, against the search by layers."""

    def test_turnings(self):
        for rule in SMALL_RULES:
            hinges = range(1, len(rule.rods))
            for c in spans_of_case(rule):
                taken = plain_foldings(rule, c)
                for first in taken:
                    found = shortest_turnings(taken, hinges, first)
                    self.check_reach(rule, c, first, found, ())
                    for last in taken:
                        with self.subTest(rods=rule.rods, c=c, first=first, last=last):
                            self.check_turns(rule, c, first, last, found)
                            self.assertEqual(direct(rule, c, first, last), plain_direct(taken, first, last))

    def check_turns(self, rule, c, first, last, found):
        """turns and many_turnings, where found has all shortest turnings from first."""
        turnings = found.get(last, [])
        turning = turns(rule, c, first, last)
        self.assertEqual(turning, min(turnings, default=None))
        self.assertEqual(many_turnings(rule, c, first, last), len(turnings))
        self.assertIs(type(many_turnings(rule, c, first, last)), int)
        for row in turnings:
            self.assertIs(is_turning(rule, c, first, last, row), True)
            self.assertIs(is_turning(rule, c, last, first, row[::-1]), True)
        if turnings:
            more = len(turning) - len(changed_hinges(first, last))
            self.assertGreaterEqual(more, 0)
            self.assertEqual(more // 2 * 2, more)
            self.assertEqual(first[0], last[0])

    def check_reach(self, rule, c, first, found, still):
        """reach, and that it is closed and nothing that lacks a part of it is."""
        closed = reach(rule, c, first, still=still)
        self.assertEqual(closed, tuple(sorted(found)))
        self.assertIs(is_closed(rule, c, closed, still=still), True)
        for at in range(len(closed)):
            without = closed[:at] + closed[at + 1:]
            self.assertIs(is_closed(rule, c, without, still=still), without == ())

    def test_still(self):
        for rule in SMALL_RULES:
            for still in all_stills(len(rule.rods)):
                hinges = [k for k in range(1, len(rule.rods)) if k not in still]
                for c in spans_of_case(rule)[::2] + [480]:
                    taken = plain_foldings(rule, c)
                    for first in taken:
                        found = shortest_turnings(taken, hinges, first)
                        self.check_reach(rule, c, first, found, still)
                        for last in taken[::3]:
                            expected = min(found.get(last, []), default=None)
                            self.assertEqual(turns(rule, c, first, last, still=still), expected)
                            if expected is not None:
                                self.assertIs(is_turning(rule, c, first, last, expected, still=still), True)


class EdgesTest(unittest.TestCase):

    def test_one_rod(self):
        for rule in [Rule(5), Held(5), Bound(5)]:
            for c in [5, 480]:
                self.assertEqual(turns(rule, c, "R", "R"), ())
                self.assertIsNone(turns(rule, c, "R", "L"))
                self.assertEqual(many_turnings(rule, c, "R", "R"), 1)
                self.assertEqual(many_turnings(rule, c, "R", "L"), 0)
                self.assertEqual(direct(rule, c, "L", "L"), ())
                self.assertIsNone(direct(rule, c, "L", "R"))
                self.assertEqual(reach(rule, c, "L"), ("L",))
                self.assertIs(is_turning(rule, c, "R", "R", ()), True)
                self.assertIs(is_turning(rule, c, "R", "L", ()), False)
                self.assertIs(is_turning(rule, c, "R", "R", (1, 1)), False)
                for closed in [(), ("L",), ("R",), ("L", "R")]:
                    self.assertIs(is_closed(rule, c, closed), True)
        self.assertIs(is_closed(Aimed(5, right=(1,)), 5, ("L", "R")), False)

    def test_first_and_last_equal(self):
        for rule in SMALL_RULES:
            for ways in plain_foldings(rule, 480):
                c = plain_span(rule.rods, ways)
                self.assertEqual(turns(rule, c, ways, ways), ())
                self.assertEqual(many_turnings(rule, c, ways, ways), 1)
                self.assertEqual(direct(rule, c, ways, ways), ())
                self.assertIs(is_turning(rule, c, ways, ways, ()), True)

    def test_first_letters_differ(self):
        rule = Rule(3, 1, 3)
        self.assertIsNone(turns(rule, 480, "RRL", "LLR"))
        self.assertIsNone(direct(rule, 480, "RRL", "LLR"))
        self.assertEqual(many_turnings(rule, 480, "RRL", "LLR"), 0)
        self.assertIs(is_turning(rule, 480, "RRL", "LLR", ()), False)

    def test_empty_tuples(self):
        for rule in SMALL_RULES:
            for c in [0, rule.total, 480]:
                self.assertIs(is_closed(rule, c, ()), True)
        self.assertIs(is_turning(Rule(3, 1, 3), 7, "RRL", "RLL", ()), False)

    def test_all_foldings_of_a_case_are_closed(self):
        for rule in SMALL_RULES:
            for c in spans_of_case(rule):
                self.assertIs(is_closed(rule, c, tuple(plain_foldings(rule, c))), True)

    def test_still_with_all_none_and_each(self):
        rule = Rule(3, 1, 3)
        self.assertEqual(reach(rule, 7, "RRL", still=(1, 2)), ("RRL",))
        self.assertEqual(reach(rule, 7, "RRL", still=()), reach(rule, 7, "RRL"))
        self.assertEqual(reach(rule, 7, "RRL", still=(1,)), ("RRL", "RRR"))
        self.assertEqual(reach(rule, 7, "RRL", still=(2,)), ("RLR", "RRL"))
        self.assertIsNone(turns(rule, 7, "RRL", "RLL", still=(1,)))
        self.assertIsNone(turns(rule, 7, "RRL", "RLL", still=(2,)))
        self.assertEqual(turns(rule, 7, "RRL", "RLR", still=(2,)), (1,))
        self.assertEqual(turns(rule, 7, "RRL", "RRL", still=(1, 2)), ())
        self.assertIs(is_turning(rule, 7, "RRL", "RLL", (2, 1), still=(1,)), False)
        self.assertIs(is_turning(rule, 7, "RRL", "RRL", (1, 1), still=(1,)), False)
        self.assertIs(is_turning(rule, 7, "RRL", "RRL", (1, 1), still=(2,)), True)
        self.assertIs(is_turning(rule, 7, "RRL", "RRL", (), still=(1, 2)), True)
        self.assertIs(is_closed(rule, 7, ("RLR", "RRL"), still=(2,)), True)
        self.assertIs(is_closed(rule, 7, ("RLR", "RRL"), still=(1,)), False)
        self.assertIs(is_closed(rule, 7, ("LLL", "RRL"), still=(1, 2)), True)

    def test_long_turnings(self):
        rule = Rule(3, 1, 3)
        self.assertIs(is_turning(rule, 5, "RRL", "RRL", (1, 2, 2, 1) * 1000), True)
        self.assertIs(is_turning(rule, 5, "RRL", "RRL", (1, 2, 2, 1) * 1000 + (2, 2)), False)
        self.assertIs(is_turning(rule, 5, "RRL", "RLR", (1, 2, 2, 1) * 999 + (1,)), True)


class TwelveRodsTest(unittest.TestCase):

    def test_wide_case(self):
        rule = Rule(*[40] * 12)
        every = tuple(range(1, 12))
        self.assertEqual(turns(rule, 480, "R" * 12, "RL" * 6), every)
        self.assertEqual(many_turnings(rule, 480, "R" * 12, "RL" * 6), 39916800)
        self.assertEqual(direct(rule, 480, "R" * 12, "RL" * 6), every)
        self.assertIs(is_turning(rule, 480, "R" * 12, "RL" * 6, every[::-1]), True)
        half = tuple(ways for ways in plain_foldings(rule, 480) if ways[0] == "R")
        self.assertEqual(reach(rule, 480, "R" * 12), half)
        self.assertIs(is_closed(rule, 480, half), True)
        self.assertIs(is_closed(rule, 480, half[1:]), False)
        self.assertIs(is_closed(rule, 480, half[:1024], still=(1,)), True)
        self.assertEqual(turns(rule, 480, "R" * 12, "R" * 5 + "L" * 7, still=(1, 11)), (5,))

    def test_narrower_cases(self):
        given = [
            (Rule(*range(1, 13)), range(12, 25, 3)),
            (Held(9, 4, 7, 7, 2, 8, 3, 5, 9, 1, 6, 6, straight=(4,)), range(10, 26, 5)),
            (Aimed(40, 1, 39, 2, 38, 3, 37, 4, 36, 5, 35, 6, right=(1, 12)), range(40, 61, 7)),
            (Bound(*[1, 2] * 6, folded=(6,), left=(2,)), range(2, 7)),
        ]
        for rule, cases in given:
            for c in cases:
                taken = plain_foldings(rule, c)
                for first in taken[:1] + taken[len(taken) // 2:][:1]:
                    self.check_from(rule, c, first, taken)

    def check_from(self, rule, c, first, taken):
        """reach, and turns and many_turnings to some foldings, against numbers counted by layers."""
        inside = set(taken)
        found = {first: ((), 1)}
        layer = {first: ((), 1)}
        while layer:
            further = {}
            for ways, (turning, many) in layer.items():
                for hinge in range(1, 12):
                    other = plain_turn(ways, hinge)
                    if other in inside and other not in found:
                        before, so_many = further.get(other, (turning + (hinge,), 0))
                        further[other] = (min(before, turning + (hinge,)), so_many + many)
            found.update(further)
            layer = further
        self.assertEqual(reach(rule, c, first), tuple(sorted(found)))
        for last in taken[::max(1, len(taken) // 12)]:
            turning, many = found.get(last, (None, 0))
            self.assertEqual(turns(rule, c, first, last), turning)
            self.assertEqual(many_turnings(rule, c, first, last), many)
            is_direct = turning is not None and len(turning) == len(changed_hinges(first, last))
            self.assertEqual(direct(rule, c, first, last), turning if is_direct else None)


class ChangedValuesTest(unittest.TestCase):
    """Right turnings and closed tuples that have been changed, and values that are nothing of the kind."""

    RULES = [
        (Rule(3, 1, 3), 5), (Rule(3, 1, 3), 7), (Rule(2, 3, 2, 3), 6), (Held(2, 1, 2, 3, straight=(2,)), 6),
        (Aimed(1, 2, 3, 2, left=(1,)), 5), (Bound(2, 1, 3, 3, 1, folded=(2,), left=(1,)), 7),
    ]

    def test_turnings(self):
        others = [1, 2, 3, 4, 5, 0, -1, True, False, None, "1", (1,), [1]]
        for rule, c in self.RULES:
            taken = plain_foldings(rule, c)
            for first in taken:
                for last in taken[::2]:
                    turning = turns(rule, c, first, last)
                    for thing in changed(turning or (), others):
                        expected = plain_is_turning(taken, first, last, thing)
                        self.assertIs(is_turning(rule, c, first, last, thing), expected, thing)
                        expected = plain_is_turning(taken, first, last, thing, still=(1,))
                        self.assertIs(is_turning(rule, c, first, last, thing, still=(1,)), expected, thing)

    def test_closed_tuples(self):
        for rule, c in self.RULES:
            taken = plain_foldings(rule, c)
            rods = len(rule.rods)
            others = taken[::3] + ["R" * rods, "LR" * rods, "L", "", "r" * rods, True, 0, None, ("L",), ["R"], {}]
            for closed in {reach(rule, c, first) for first in taken} | {tuple(taken)}:
                for thing in changed(closed, others):
                    expected = plain_is_closed(taken, thing)
                    self.assertIs(is_closed(rule, c, thing), expected, thing)
                    expected = plain_is_closed(taken, thing, still=(2,))
                    self.assertIs(is_closed(rule, c, thing, still=(2,)), expected, thing)

    def test_every_folding_on_the_way_counts(self):
        rule = Aimed(3, 1, 3, left=(3,))
        self.assertIs(is_turning(rule, 7, "RRL", "RLL", (1, 2)), False)
        self.assertIs(is_turning(rule, 7, "RRL", "RLL", (2, 1)), False)
        self.assertIs(is_turning(rule, 7, "RRL", "RRL", (1, 1)), False)
        self.assertIs(is_turning(Held(3, 1, 3, straight=(1,)), 7, "RRL", "RRL", (1, 1)), False)
        self.assertIs(is_turning(Held(3, 1, 3, straight=(1,)), 7, "RRL", "RRL", (2, 2)), True)
        self.assertIs(is_turning(Rule(3, 1, 3), 5, "RRL", "RRL", (2, 2)), False)
        self.assertIsNone(turns(rule, 480, "RRL", "RLL"))

    def test_true_in_the_place_of_one(self):
        self.assertIs(is_turning(Rule(3, 1, 3), 5, "RRL", "RLL", (True, 2)), False)
        self.assertIs(is_turning(Rule(3, 1, 3), 5, "RRL", "RLR", (True,)), False)

    def test_lists(self):
        self.assertIs(is_turning(Rule(3, 1, 3), 5, "RRL", "RLL", [1, 2]), False)
        self.assertIs(is_turning(Rule(3, 1, 3), 5, "RRL", "RRL", []), False)
        self.assertIs(is_closed(Rule(3, 1, 3), 4, ["RRL"]), False)
        self.assertIs(is_closed(Rule(3, 1, 3), 4, []), False)

    def test_order_and_repetition(self):
        rule = Rule(3, 1, 3)
        self.assertIs(is_closed(rule, 4, ("LLR", "RRL")), True)
        self.assertIs(is_closed(rule, 4, ("RRL", "LLR")), False)
        self.assertIs(is_closed(rule, 4, ("RRL", "RRL")), False)

    def test_foldings_that_are_not_taken(self):
        self.assertIs(is_closed(Rule(3, 1, 3), 4, ("RLR",)), False)
        self.assertIs(is_closed(Held(3, 1, 3, straight=(1,)), 7, ("RLR",)), False)
        self.assertIs(is_closed(Held(3, 1, 3, straight=(1,)), 7, ("RLL", "RLR")), False)

    def test_values_that_are_nothing_of_the_kind(self):
        rule = Rule(3, 1, 3)
        for thing in NO_TUPLES:
            self.assertIs(is_turning(rule, 7, "RRL", "RRL", thing), False)
            self.assertIs(is_closed(rule, 7, thing), False)
            self.assertIs(is_turning(rule, 7, "RRL", "RRL", (thing,)), False)
            self.assertIs(is_closed(rule, 7, (thing,)), False)
            self.assertIs(is_closed(rule, 7, ("LLL", thing)), False)

    def test_arguments_stay(self):
        rule = Held(3, 1, 3, straight=(1,))
        thing = ["RRL"]
        still = [1]
        is_closed(rule, 4, thing)
        is_turning(rule, 4, "RRL", "RRL", still)
        self.assertEqual((thing, still), (["RRL"], [1]))
        self.assertEqual((rule.rods, rule.options()), ([3, 1, 3], {"straight": (1,), "folded": ()}))
        for _ in range(2):
            self.assertEqual(reach(rule, 7, "RRL"), ("RRL", "RRR"))
            self.assertEqual(turns(rule, 7, "RRL", "RRR"), (2,))


if __name__ == "__main__":
    unittest.main()
