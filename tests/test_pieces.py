"""Pieces of a case: [2], [3], [40], [41] and [42]."""

import unittest
from itertools import product

from rodturns.errors import CaseError, RefusedError, RuleError, WaysError, WidthError
from rodturns.pieces import farthest, pieces, settled, split, stiff
from rodturns.rules import Aimed, Bound, Held, Rule, flipped
from rodturns.turning import is_closed, reach, turns
from tests.values import (
    NARROW_RULES, NO_CASES, NO_RULES, NO_WAYS, SMALL_RULES, TWELVE_RULES, all_ways, error_of, plain_foldings,
    plain_reach, plain_span, plain_turn, shortest_turnings, spans_of,
)

RULES = SMALL_RULES + NARROW_RULES
NOTHING = [
    Bound(3, 1, straight=(1,), right=(1,), left=(2,)), Bound(3, 1, 3, folded=(1,), right=(1, 2)),
    Bound(3, 1, 3, folded=(1, 2), right=(1,), left=(3,)),
]


def cases_of(rule):
    """The cases in which the foldings of a rule differ, one less than each, and the ends."""
    spans = spans_of(rule)
    return sorted(set(spans) | {span - 1 for span in spans} | {0, rule.total, 480})


def plain_pieces(taken):
    """The pieces of foldings that are taken: lists that are put together where a turn leads from one to the other."""
    piece_of = {ways: [ways] for ways in taken}
    for ways in taken:
        for hinge in range(1, len(ways)):
            one, other = piece_of[ways], piece_of.get(plain_turn(ways, hinge))
            if other is not None and other is not one:
                one.extend(other)
                piece_of.update({moved: one for moved in other})
    return tuple(sorted({tuple(sorted(piece)) for piece in piece_of.values()}))


def plain_stiff(taken, ways):
    """The hinges of which no turn leads from a folding of the piece to another one."""
    piece = plain_reach(taken, ways)
    return tuple(k for k in range(1, len(ways)) if not any(plain_turn(one, k) in piece for one in piece))


def plain_farthest(taken, ways):
    """The greatest number of hinges of a shortest turning, and the first folding that has it."""
    found = shortest_turnings(taken, range(1, len(ways)), ways)
    number = max(len(turnings[0]) for turnings in found.values())
    return number, min(last for last, turnings in found.items() if len(turnings[0]) == number)


def plain_split(taken):
    """The first two foldings, pair by pair in order, with one first letter and not in one piece; or None."""
    for at, one in enumerate(taken):
        for other in taken[at + 1:]:
            closed = plain_reach(taken, one)
            if one[0] == other[0] and other not in closed:
                return one, other, closed
    return None


def plain_settled(rule):
    """The least case from which on no case has a split, case by case from the greatest one; or None."""
    for c in range(480, -1, -1):
        # The cases behind the total, and those from one span to the next one, take the same.
        if (c in (480, rule.total) or c + 1 in spans_of(rule)) and plain_split(plain_foldings(rule, c)) is not None:
            return None if c == 480 else c + 1
    return 0


def sizes(rule, c):
    """The sizes of the pieces, in ascending order."""
    return sorted(len(piece) for piece in pieces(rule, c))


def with_rod_replaced(rule, rod, length):
    """A rule with two rods in the place of one, the first of this length, and a straight hinge between them."""
    given = {"straight": (), "folded": (), "right": (), "left": (), **rule.options()}
    rods = rule.rods
    rods[rod - 1:rod] = [length, rods[rod - 1] - length]
    straight = tuple(k + (k >= rod) for k in given["straight"]) + (rod,)
    folded = tuple(k + (k >= rod) for k in given["folded"])
    aims = {
        name: tuple(k + (k > rod) for k in given[name]) + (rod + 1,) * (rod in given[name])
        for name in ("right", "left")
    }
    return Bound(*rods, straight=straight, folded=folded, **aims)


class ExampleTest(unittest.TestCase):

    RULE = Rule(3, 1, 3)

    def test_pieces(self):
        self.assertEqual(pieces(self.RULE, 5), (("LLR", "LRL", "LRR"), ("RLL", "RLR", "RRL")))
        self.assertEqual(pieces(self.RULE, 4), (("LLR",), ("LRR",), ("RLL",), ("RRL",)))
        self.assertEqual(pieces(self.RULE, 3), ())
        self.assertEqual(pieces(self.RULE, 7), (("LLL", "LLR", "LRL", "LRR"), ("RLL", "RLR", "RRL", "RRR")))

    def test_stiff_and_farthest(self):
        self.assertEqual(stiff(self.RULE, 4, "RRL"), (1, 2))
        self.assertEqual(stiff(self.RULE, 5, "RRL"), ())
        self.assertEqual(stiff(Held(3, 1, 3, straight=(1,)), 7, "RRL"), (1,))
        self.assertEqual(farthest(self.RULE, 4, "RRL"), (0, "RRL"))
        self.assertEqual(farthest(self.RULE, 5, "RRL"), (2, "RLL"))
        self.assertEqual(farthest(self.RULE, 5, "RLR"), (1, "RLL"))

    def test_split_and_settled(self):
        self.assertEqual(split(self.RULE, 4), ("LLR", "LRR", ("LLR",)))
        self.assertIsNone(split(self.RULE, 5))
        self.assertEqual(settled(self.RULE), 5)


class EveryCaseTest(unittest.TestCase):
    """Small rules in all cases that matter, against plain searches."""

    def test_pieces(self):
        for rule in RULES:
            for c in cases_of(rule):
                taken = plain_foldings(rule, c)
                with self.subTest(rods=rule.rods, options=rule.options(), c=c):
                    found = pieces(rule, c)
                    self.assertEqual(found, plain_pieces(taken))
                    self.assertIs(type(found), tuple)
                    self.assertEqual(sorted(ways for piece in found for ways in piece), taken)
                    for piece in found:
                        self.assertIs(type(piece), tuple)
                        self.assertEqual(len({ways[0] for ways in piece}), 1)
                        self.assertIs(is_closed(rule, c, piece), True)

    def test_stiff_and_farthest(self):
        for rule in RULES:
            for c in cases_of(rule):
                taken = plain_foldings(rule, c)
                for ways in taken:
                    with self.subTest(rods=rule.rods, options=rule.options(), c=c, ways=ways):
                        self.check_folding(rule, c, ways, taken)

    def check_folding(self, rule, c, ways, taken):
        """stiff and farthest from one folding."""
        found = stiff(rule, c, ways)
        self.assertEqual(found, plain_stiff(taken, ways))
        self.assertIs(type(found), tuple)
        piece = reach(rule, c, ways)
        for hinge in range(1, len(ways)):
            states = {one[hinge - 1] == one[hinge] for one in piece}
            self.assertEqual(len(states) == 1, hinge in found)
        answer = farthest(rule, c, ways)
        self.assertEqual(answer, plain_farthest(taken, ways))
        self.assertEqual([type(answer), type(answer[0])], [tuple, int])
        lengths = [len(turns(rule, c, ways, last)) for last in piece]
        self.assertEqual(answer, (max(lengths), piece[lengths.index(max(lengths))]))

    def test_split(self):
        for rule in RULES:
            for c in cases_of(rule):
                with self.subTest(rods=rule.rods, options=rule.options(), c=c):
                    found = split(rule, c)
                    self.assertEqual(found, plain_split(plain_foldings(rule, c)))
                    if found is not None:
                        one, other, closed = found
                        self.assertIs(type(found), tuple)
                        self.assertEqual(closed, reach(rule, c, one))
                        self.assertIn(closed, pieces(rule, c))
                        self.assertIsNone(turns(rule, c, one, other))

    def test_settled(self):
        for rule in RULES:
            with self.subTest(rods=rule.rods, options=rule.options()):
                found = settled(rule)
                self.assertEqual(found, plain_settled(rule))
                if found is None:
                    self.assertIsNotNone(split(rule, 480))
                else:
                    self.assertIs(type(found), int)
                    for c in list(range(found, rule.total + 2)) + [480]:
                        self.assertIsNone(split(rule, c))
                    if found > 0:
                        self.assertIsNotNone(split(rule, found - 1))

    def test_each_kind_of_settled_occurs(self):
        answers = [settled(rule) for rule in RULES]
        self.assertIn(None, answers)
        self.assertIn(0, answers)
        self.assertGreater(len({c for c in answers if c}), 3)

    def test_settled_of_more_rules(self):
        for rods in product((1, 4), (1, 3), (1, 2, 4), (3, 4)):
            self.assertEqual(settled(Rule(*rods)), plain_settled(Rule(*rods)))


class TwelveRodsTest(unittest.TestCase):

    def test_pieces_and_split(self):
        for rule in TWELVE_RULES:
            spans = spans_of(rule)
            for c in [spans[0], spans[1], spans[len(spans) // 4], 480]:
                taken = plain_foldings(rule, c)
                expected = plain_pieces(taken)
                with self.subTest(rods=rule.rods, c=c):
                    self.assertEqual(pieces(rule, c), expected)
                    self.check_split(split(rule, c), taken, expected)

    def check_split(self, found, taken, expected):
        """A split against the pieces of the case."""
        number_of = {ways: number for number, piece in enumerate(expected) for ways in piece}
        for letter in "LR":
            # If the first folding with this letter is in one piece with all others, these are in one piece, too.
            row = [ways for ways in taken if ways[0] == letter]
            apart = [ways for ways in row if number_of[ways] != number_of[row[0]]]
            if apart:
                self.assertEqual(found, (row[0], apart[0], expected[number_of[row[0]]]))
                return
        self.assertIsNone(found)

    def test_stiff_and_farthest(self):
        for rule in TWELVE_RULES:
            spans = spans_of(rule)
            for c in [spans[0], spans[len(spans) // 5]]:
                taken = plain_foldings(rule, c)
                ways = taken[len(taken) // 2]
                steps = self.steps_from(set(taken), ways)
                number = max(steps.values())
                last = min(other for other, many in steps.items() if many == number)
                self.assertEqual(farthest(rule, c, ways), (number, last))
                moving = [k for k in range(1, 12) if any(plain_turn(one, k) in steps for one in steps)]
                self.assertEqual(stiff(rule, c, ways), tuple(k for k in range(1, 12) if k not in moving))

    def steps_from(self, taken, first):
        """The number of turns to each folding that is reached, layer by layer."""
        steps = {first: 0}
        layer = [first]
        while layer:
            after = {plain_turn(ways, hinge) for ways in layer for hinge in range(1, 12)}
            number = steps[layer[0]] + 1
            layer = [ways for ways in after if ways in taken and ways not in steps]
            steps.update({ways: number for ways in layer})
        return steps

    def test_settled(self):
        for rule in TWELVE_RULES:
            found = settled(rule)
            if found is None:
                self.assertIsNotNone(split(rule, 480))
                continue
            for c in spans_of(rule):
                if c >= found:
                    self.assertIsNone(split(rule, c))
            self.assertIsNone(split(rule, found))
            self.assertTrue(found == 0 or split(rule, found - 1) is not None)

    def test_wide_case(self):
        rule = Rule(*[40] * 12)
        self.assertEqual([len(piece) for piece in pieces(rule, 480)], [2048, 2048])
        self.assertEqual(farthest(rule, 480, "R" * 12), (11, "RL" * 6))
        self.assertEqual(stiff(rule, 480, "R" * 12), ())
        self.assertEqual(stiff(rule, 40, "RL" * 6), tuple(range(1, 12)))


class WholeProgramTest(unittest.TestCase):
    """[40]."""

    def test_flipped_rules_without_aims(self):
        for rule in RULES:
            if not any(rule.options().get(name) for name in ("right", "left")):
                other = flipped(rule)
                for c in cases_of(rule):
                    self.assertEqual(sizes(rule, c), sizes(other, c))
                self.assertEqual(settled(rule), settled(other))

    def test_flipped_rules_of_twelve_rods(self):
        rule = Held(9, 4, 7, 7, 2, 8, 3, 5, 9, 1, 6, 6, straight=(4,), folded=(7,))
        for c in [9, 12, 20, 30, 67, 480]:
            self.assertEqual(sizes(rule, c), sizes(flipped(rule), c))

    def test_rod_replaced_by_two(self):
        for rule in RULES:
            for rod, length in enumerate(rule.rods, start=1):
                for one in {1, length // 2, length - 1} - {0}:
                    if one < length:
                        self.check_replaced(rule, rod, one)

    def check_replaced(self, rule, rod, length):
        """That pieces and settled stay if a rod is replaced, and the foldings of each piece also."""
        other = with_rod_replaced(rule, rod, length)
        with self.subTest(rods=rule.rods, options=rule.options(), rod=rod, length=length):
            self.assertEqual(settled(other), settled(rule))
            for c in cases_of(rule):
                self.assertEqual(sizes(other, c), sizes(rule, c))
                # The letter of the rod stands twice, which leaves the order of the foldings as it is.
                twice = [[ways[:rod] + ways[rod - 1:] for ways in piece] for piece in pieces(rule, c)]
                self.assertEqual(pieces(other, c), tuple(tuple(piece) for piece in twice))

    def test_doubled_lengths(self):
        for rule in RULES:
            if max(rule.rods) <= 20:
                doubled = type(rule)(*[2 * length for length in rule.rods], **rule.options())
                for c in cases_of(rule)[:-1]:
                    self.assertEqual(pieces(doubled, 2 * c), pieces(rule, c))
                    self.assertEqual(split(doubled, 2 * c + 1), split(rule, c))
                found = settled(rule)
                self.assertEqual(settled(doubled), found if found is None else 2 * found)


class EdgesTest(unittest.TestCase):

    def test_one_rod(self):
        for rule in [Rule(5), Held(5), Bound(5)]:
            for c in [5, 480]:
                self.assertEqual(pieces(rule, c), (("L",), ("R",)))
                self.assertIsNone(split(rule, c))
                self.assertEqual(stiff(rule, c, "R"), ())
                self.assertEqual(farthest(rule, c, "L"), (0, "L"))
            for c in [0, 4]:
                self.assertEqual(pieces(rule, c), ())
                self.assertIsNone(split(rule, c))
            self.assertEqual(settled(rule), 0)
        self.assertEqual(pieces(Aimed(5, right=(1,)), 480), (("R",),))

    def test_rules_that_allow_nothing(self):
        for rule in NOTHING:
            for c in [0, 4, 7, 480]:
                self.assertEqual(pieces(rule, c), ())
                self.assertIsNone(split(rule, c))
            self.assertEqual(settled(rule), 0)

    def test_least_and_greatest_case(self):
        for rule in RULES:
            self.assertEqual(pieces(rule, 0), ())
            self.assertIsNone(split(rule, 0))
            self.assertEqual(pieces(rule, 480), pieces(rule, rule.total))
            self.assertEqual(split(rule, 480), split(rule, rule.total))
        self.assertEqual(settled(Held(*[40] * 12, straight=tuple(range(1, 12)))), 0)

    def test_settled_none(self):
        rule = Aimed(3, 1, 3, left=(3,))
        self.assertIsNone(settled(rule))
        self.assertEqual(split(rule, 480), ("LLL", "LRL", ("LLL",)))
        self.assertEqual(pieces(rule, 480), (("LLL",), ("LRL",), ("RLL",), ("RRL",)))

    def test_settled_none_for_one_letter_only(self):
        for options in [{"right": (1, 3)}, {"left": (1, 3)}, {"right": (1,), "left": (3,)}]:
            rule = Aimed(3, 1, 3, **options)
            self.assertIsNone(settled(rule))
            self.assertEqual(len(pieces(rule, 480)), 2)
            self.assertEqual(split(rule, 480)[0], pieces(rule, 480)[0][0])

    def test_settled_zero(self):
        for rule in [Rule(1, 1), Rule(1, 3), Held(3, 1, 3, straight=(1, 2)), Aimed(3, 1, right=(2,), left=(1,))]:
            self.assertEqual(settled(rule), 0)
            for c in range(0, 9):
                self.assertIsNone(split(rule, c))

    def test_split_before_settled(self):
        for rule in NARROW_RULES:
            c = settled(rule)
            if c is not None:
                self.assertGreater(c, 0)
                self.assertIsNotNone(split(rule, c - 1))
                self.assertIsNone(split(rule, c))

    def test_case_without_split_below_one_with_a_split(self):
        for rule in [Rule(3, 1, 1, 2, 5), Rule(5, 2, 1, 1, 3)]:
            self.assertEqual([c for c in range(481) if split(rule, c) is not None], [5, 7])
            self.assertEqual(settled(rule), 8)

    def test_split_of_the_second_letter_only(self):
        rule = Aimed(4, 1, 1, 4, 1, right=(2,))
        self.assertEqual([piece[0][0] for piece in pieces(rule, 6)], ["L", "R", "R"])
        self.assertEqual(split(rule, 6), ("RRLLL", "RRRLL", ("RRLLL", "RRLLR")))
        self.assertEqual(settled(rule), 8)

    def test_pieces_of_one_folding(self):
        rule = Rule(3, 1, 3)
        for ways in plain_foldings(rule, 4):
            self.assertIn((ways,), pieces(rule, 4))
            self.assertEqual(stiff(rule, 4, ways), (1, 2))
            self.assertEqual(farthest(rule, 4, ways), (0, ways))


class WrongArgumentsTest(unittest.TestCase):

    # In the case 4 the folding RLR is not allowed and too wide, RRR is allowed and too wide.
    RULE = Held(3, 1, 3, straight=(1,))
    WRONG_WAYS = [("RR", WaysError), (None, WaysError), (["R"], WaysError), ("RLR", RefusedError), ("RRR", WidthError)]

    def test_alone_and_together(self):
        rules = [(self.RULE, None), (None, RuleError), ((3, 1, 3), RuleError)]
        cases = [(4, None), (True, CaseError), (-1, CaseError), (481, CaseError), (None, CaseError), ("4", CaseError)]
        for rule, c in product(rules, cases):
            for function in [pieces, split]:
                self.assertEqual(error_of(function, rule[0], c[0]), rule[1] or c[1])
            for ways in [("RRL", None)] + self.WRONG_WAYS:
                for function in [stiff, farthest]:
                    expected = rule[1] or c[1] or ways[1]
                    self.assertEqual(error_of(function, rule[0], c[0], ways[0]), expected)

    def test_wrong_rules(self):
        for thing in NO_RULES:
            for c in [4, None, 481]:
                self.assertEqual(error_of(pieces, thing, c), RuleError)
                self.assertEqual(error_of(split, thing, c), RuleError)
                self.assertEqual(error_of(stiff, thing, c, "RRL"), RuleError)
                self.assertEqual(error_of(farthest, thing, c, ""), RuleError)
            self.assertEqual(error_of(settled, thing), RuleError)

    def test_wrong_cases(self):
        for thing in NO_CASES:
            for rule in [self.RULE, NOTHING[2]]:
                self.assertEqual(error_of(pieces, rule, thing), CaseError)
                self.assertEqual(error_of(split, rule, thing), CaseError)
                for ways in ["RRL", "RLR", "RR", None]:
                    self.assertEqual(error_of(stiff, rule, thing, ways), CaseError)
                    self.assertEqual(error_of(farthest, rule, thing, ways), CaseError)

    def test_wrong_ways(self):
        for function in [stiff, farthest]:
            for thing in NO_WAYS:
                for c in [0, 4, 480]:
                    self.assertEqual(error_of(function, self.RULE, c, thing), WaysError)
            for c, ways, expected in [
                (0, "RRL", WidthError), (3, "RRL", WidthError), (6, "RRR", WidthError), (7, "RRR", None),
                (0, "RLR", RefusedError), (480, "RLR", RefusedError), (0, "RL", WaysError),
            ]:
                self.assertEqual(error_of(function, self.RULE, c, ways), expected)
            for ways in all_ways(3):
                self.assertEqual(error_of(function, NOTHING[2], 480, ways), RefusedError)

    def test_same_call_same_answer(self):
        rule = Bound(3, 1, 3, right=(1,))
        options = rule.options()
        for _ in range(2):
            self.assertEqual(pieces(rule, 5), (("RLL", "RLR", "RRL"),))
            self.assertEqual(stiff(rule, 4, "RRL"), (1, 2))
            self.assertEqual(farthest(rule, 5, "RRL"), (2, "RLL"))
            self.assertEqual(split(rule, 4), ("RLL", "RRL", ("RLL",)))
            self.assertEqual(settled(rule), 5)
        self.assertEqual((rule.rods, rule.options()), ([3, 1, 3], options))
        self.assertEqual({plain_span(rule.rods, ways) for ways in split(rule, 4)[2]}, {4})


if __name__ == "__main__":
    unittest.main()
