"""Rules, their locks and aims, the foldings that they allow, and the other end: [2], [3], [10] to [13]."""

import unittest

from rodturns.errors import LockError, RodsError, RuleError, WaysError
from rodturns.rules import Aimed, Bound, Held, Rule, flipped
from tests.values import NO_INTEGERS, NO_RULES, NO_TEXTS, all_choices, all_ways, is_allowed

ALL_CLASSES = [Rule, Held, Aimed, Bound]


def all_bounds(*rods):
    """Each Bound with these rods, with its four options."""
    found = []
    for straight, folded in all_choices(len(rods) - 1):
        for right, left in all_choices(len(rods)):
            given = {"straight": straight, "folded": folded, "right": right, "left": left}
            found.append((Bound(*rods, **given), given))
    return found


class RodsTest(unittest.TestCase):

    def test_example(self):
        rule = Rule(3, 1, 3)
        self.assertEqual(rule.rods, [3, 1, 3])
        self.assertIs(type(rule.rods), list)
        self.assertEqual(rule.total, 7)

    def test_numbers_of_rods(self):
        for rods in [(1,), (40,), (9, 10), (40, 1, 9, 10), tuple(range(1, 13)), (40,) * 12]:
            for made in ALL_CLASSES:
                with self.subTest(made=made, rods=rods):
                    rule = made(*rods)
                    self.assertEqual(rule.rods, list(rods))
                    self.assertEqual(rule.total, sum(rods))

    def test_limits(self):
        self.assertEqual(Rule.MOST_RODS, 12)
        self.assertEqual(Rule.MOST_LENGTH, 40)
        for made in ALL_CLASSES:
            self.assertEqual((made(1).MOST_RODS, made(1).MOST_LENGTH), (12, 40))

    def test_wrong_number_of_rods(self):
        for rods in [(), (1,) * 13, (40,) * 14]:
            for made in ALL_CLASSES:
                with self.subTest(made=made, rods=rods), self.assertRaises(RodsError):
                    made(*rods)

    def test_wrong_lengths(self):
        for wrong in [0, 41, -1, -40, 10 ** 13 - 1] + NO_INTEGERS:
            for made in ALL_CLASSES:
                for rods in [(wrong,), (wrong, 1), (1, wrong, 2), (40, 1, wrong)]:
                    with self.subTest(made=made, rods=rods), self.assertRaises(RodsError):
                        made(*rods)

    def test_is_rod(self):
        for length in range(-50, 100):
            answer = Rule.is_rod(length)
            self.assertIs(answer, 1 <= length <= 40, length)
        for thing in NO_INTEGERS + [-10 ** 13 + 1, 10 ** 13 - 1]:
            self.assertIs(Rule.is_rod(thing), False, thing)
        self.assertIs(Bound(3).is_rod(40), True)

    def test_equal_to_itself(self):
        for made in ALL_CLASSES:
            rule = made(3, 1)
            self.assertTrue(rule == rule)
            self.assertFalse(rule != rule)

    def test_returned_rods_are_new(self):
        for made in ALL_CLASSES:
            rule = made(3, 1, 3)
            rods = rule.rods
            rods[0] = 40
            rods.append(5)
            self.assertEqual(rule.rods, [3, 1, 3])
            self.assertEqual(rule.total, 7)
            self.assertIsNot(rule.rods, rule.rods)
            self.assertIs(rule.allows("RRL"), True)


class OptionsTest(unittest.TestCase):

    def test_bases(self):
        self.assertEqual(Held.__bases__, (Rule,))
        self.assertEqual(Aimed.__bases__, (Rule,))
        self.assertEqual(Bound.__bases__, (Held, Aimed))

    def test_examples(self):
        held = Held(2, 1, 2, straight=(1,), folded=(2,))
        self.assertEqual(held.options(), {"straight": (1,), "folded": (2,)})
        aimed = Aimed(2, 1, 2, right=(1,), left=(3,))
        self.assertEqual(aimed.options(), {"right": (1,), "left": (3,)})

    def test_no_options(self):
        self.assertEqual(Rule(2, 1).options(), {})
        self.assertEqual(Held(2, 1).options(), {"straight": (), "folded": ()})
        self.assertEqual(Aimed(2, 1).options(), {"right": (), "left": ()})
        self.assertEqual(Bound(2, 1).options(), {"straight": (), "folded": (), "right": (), "left": ()})

    def test_any_order(self):
        bound = Bound(*(7,) * 12, straight=(11, 1, 5), folded=(3, 2), right=(12, 4, 10, 1), left=(9, 2))
        expected = {"straight": (1, 5, 11), "folded": (2, 3), "right": (1, 4, 10, 12), "left": (2, 9)}
        self.assertEqual(bound.options(), expected)
        held = Held(*(7,) * 12, straight=(11, 1, 5), folded=(3, 2))
        self.assertEqual(held.options(), {"straight": (1, 5, 11), "folded": (2, 3)})
        aimed = Aimed(*(7,) * 12, right=(12, 4, 10, 1), left=(9, 2))
        self.assertEqual(aimed.options(), {"right": (1, 4, 10, 12), "left": (2, 9)})

    def test_all_options(self):
        for bound, given in all_bounds(4, 1, 40):
            self.assertEqual(bound.options(), given)

    def test_returned_options_are_new(self):
        rules = [
            Rule(2, 1, 2),
            Held(2, 1, 2, straight=(1,), folded=(2,)),
            Aimed(2, 1, 2, right=(1,), left=(3,)),
            Bound(2, 1, 2, straight=(1,), folded=(2,), right=(1,), left=(3,)),
        ]
        for rule in rules:
            before = dict(rule.options())
            allowed = [ways for ways in all_ways(3) if rule.allows(ways)]
            changed = rule.options()
            changed["straight"] = (2,)
            changed["right"] = (2,)
            changed["more"] = 1
            self.assertEqual(rule.options(), before)
            self.assertIsNot(rule.options(), rule.options())
            self.assertEqual([ways for ways in all_ways(3) if rule.allows(ways)], allowed)


class LocksTest(unittest.TestCase):

    def assert_locked(self, made, rods, **given):
        with self.subTest(made=made, rods=rods, given=given), self.assertRaises(LockError):
            made(*rods, **given)

    def assert_wrong(self, rods, name, thing):
        self.assert_locked(Bound, rods, **{name: thing})
        made = Held if name in ("straight", "folded") else Aimed
        self.assert_locked(made, rods, **{name: thing})

    def test_numbers_outside(self):
        for name, most in [("straight", 2), ("folded", 2), ("right", 3), ("left", 3)]:
            for wrong in [0, -1, most + 1, 13, 10 ** 13 - 1]:
                self.assert_wrong((2, 1, 2), name, (wrong,))
                self.assert_wrong((2, 1, 2), name, (1, wrong))
            self.assertEqual(Bound(2, 1, 2, **{name: (most,)}).options()[name], (most,))

    def test_one_rod_has_no_hinge(self):
        self.assert_wrong((5,), "straight", (1,))
        self.assert_wrong((5,), "folded", (1,))
        self.assert_wrong((5,), "right", (2,))
        self.assertEqual(Aimed(5, left=(1,)).options(), {"right": (), "left": (1,)})

    def test_repeated_numbers(self):
        for name in ["straight", "folded", "right", "left"]:
            self.assert_wrong((2, 1, 2), name, (1, 1))
            self.assert_wrong((2, 1, 2), name, (2, 1, 2))

    def test_number_in_both(self):
        for one, other in [((1,), (1,)), ((1, 2), (2,)), ((2,), (2, 1)), ((2, 1), (1, 2))]:
            self.assert_locked(Held, (2, 1, 2), straight=one, folded=other)
            self.assert_locked(Bound, (2, 1, 2), straight=one, folded=other)
            self.assert_locked(Aimed, (2, 1, 2), right=one, left=other)
            self.assert_locked(Bound, (2, 1, 2), right=one, left=other)

    def test_same_number_of_hinge_and_rod(self):
        bound = Bound(2, 1, straight=(1,), left=(1,))
        self.assertEqual(bound.options(), {"straight": (1,), "folded": (), "right": (), "left": (1,)})

    def test_wrong_kinds(self):
        no_tuples = [None, True, False, 0, 1, "", "1", [], [1], {}, {1: 1}]
        no_numbers = [(True,), (False,), (2, True), ((1,),), ("1",), (None,), ([1],), ({},), (1, "2"), (1, (2,))]
        for name in ["straight", "folded", "right", "left"]:
            for thing in no_tuples + no_numbers:
                self.assert_wrong((2, 1, 2), name, thing)

    def test_rods_before_locks(self):
        for rods in [(), (0, 1), (1, 41), (True, 2), (1,) * 13, ([1], 2)]:
            for name in ["straight", "folded", "right", "left"]:
                for thing in [(1, 1), [1], (0,), None, (True,)]:
                    for made in (Bound, Held if name in ("straight", "folded") else Aimed):
                        with self.subTest(made=made, rods=rods), self.assertRaises(RodsError):
                            made(*rods, **{name: thing})


class AllowsTest(unittest.TestCase):

    def test_rule_allows_all(self):
        for many in [1, 2, 3, 12]:
            rule = Rule(*range(1, many + 1))
            for ways in all_ways(many):
                self.assertIs(rule.allows(ways), True)

    def test_every_bound(self):
        for bound, given in all_bounds(3, 1, 3):
            for ways in all_ways(3):
                self.assertIs(bound.allows(ways), is_allowed(ways, **given), (ways, given))

    def test_every_held_and_aimed(self):
        for one, other in all_choices(2):
            held = Held(3, 1, 3, straight=one, folded=other)
            for ways in all_ways(3):
                self.assertIs(held.allows(ways), is_allowed(ways, straight=one, folded=other))
        for one, other in all_choices(3):
            aimed = Aimed(3, 1, 3, right=one, left=other)
            for ways in all_ways(3):
                self.assertIs(aimed.allows(ways), is_allowed(ways, right=one, left=other))

    def test_twelve_rods(self):
        given = {"straight": (11, 1), "folded": (6,), "right": (12,), "left": (3, 1)}
        bound = Bound(*(40,) * 12, **given)
        for ways in all_ways(12):
            self.assertIs(bound.allows(ways), is_allowed(ways, **given))

    def test_bound_that_allows_nothing(self):
        for given in [
            {"straight": (1,), "right": (1,), "left": (2,)},
            {"folded": (1,), "right": (1, 2)},
            {"folded": (1, 2), "right": (1,), "left": (3,)},
        ]:
            bound = Bound(3, 1, 3, **given)
            self.assertEqual([ways for ways in all_ways(3) if bound.allows(ways)], [])

    def test_no_ways(self):
        for rods in [(5,), (5, 5), (3, 1, 3)]:
            many = len(rods)
            wrong = ["", "R" * (many - 1), "R" * (many + 1), "r" * many, "X" * many, "R" * (many - 1) + "l"]
            wrong += ["R" * (many - 1) + " ", " " + "R" * many, "L" * 300, ["L"] * many, ("L",) * many]
            for thing in wrong + NO_TEXTS:
                for made in ALL_CLASSES:
                    with self.subTest(made=made, rods=rods, thing=thing), self.assertRaises(WaysError):
                        made(*rods).allows(thing)

    def test_no_ways_of_a_bound_that_allows_nothing(self):
        bound = Bound(3, 1, straight=(1,), right=(1,), left=(2,))
        for thing in ["", "R", "RLR", "RX", None]:
            with self.subTest(thing=thing), self.assertRaises(WaysError):
                bound.allows(thing)

    def test_arguments_and_answers_stay(self):
        bound = Bound(3, 1, 3, straight=(2,), left=(1,))
        given = ["L", "L", "L"]
        with self.assertRaises(WaysError):
            bound.allows(given)
        self.assertEqual(given, ["L", "L", "L"])
        self.assertEqual(bound.options(), {"straight": (2,), "folded": (), "right": (), "left": (1,)})
        self.assertEqual([bound.allows("LLL"), bound.allows("LLL"), bound.allows("RLL")], [True, True, False])


class FlippedTest(unittest.TestCase):

    def test_example(self):
        bound = Bound(4, 3, 5, 2, straight=(1,), folded=(2,), right=(1,), left=(3,))
        other = flipped(bound)
        self.assertIs(type(other), Bound)
        self.assertEqual(other.rods, [2, 5, 3, 4])
        self.assertEqual(other.options(), {"straight": (3,), "folded": (2,), "right": (2,), "left": (4,)})

    def test_each_class(self):
        for rule, given in [
            (Rule(1, 9, 40), {}),
            (Held(1, 9, 40, straight=(1,)), {"straight": (2,)}),
            (Held(1, 9, 40, folded=(2, 1)), {"folded": (1, 2)}),
            (Aimed(1, 9, 40, right=(3, 2)), {"left": (1, 2)}),
            (Aimed(1, 9, 40, left=(1,)), {"right": (3,)}),
        ]:
            other = flipped(rule)
            self.assertIs(type(other), Bound)
            self.assertEqual(other.rods, [40, 9, 1])
            self.assertEqual(other.options(), Bound(1, 1, 1, **given).options())

    def test_one_and_twelve_rods(self):
        self.assertEqual(flipped(Aimed(10, right=(1,))).options()["left"], (1,))
        other = flipped(Held(*range(1, 13), straight=(1, 2), folded=(11,)))
        self.assertEqual(other.rods, list(range(12, 0, -1)))
        self.assertEqual(other.options(), {"straight": (10, 11), "folded": (1,), "right": (), "left": ()})

    def test_foldings_seen_from_the_other_end(self):
        for bound, _ in all_bounds(3, 1, 4):
            other = flipped(bound)
            for ways in all_ways(3):
                seen = "".join("L" if letter == "R" else "R" for letter in reversed(ways))
                self.assertEqual(bound.allows(ways), other.allows(seen))

    def test_flipped_twice(self):
        for bound, given in all_bounds(3, 1, 4):
            again = flipped(flipped(bound))
            self.assertEqual(again.rods, [3, 1, 4])
            self.assertEqual(again.options(), given)
            self.assertEqual(bound.rods, [3, 1, 4])
            self.assertEqual(bound.options(), given)

    def test_class_below(self):
        class Own(Held):
            pass

        self.assertEqual(flipped(Own(1, 2, 3, folded=(1,))).options()["folded"], (2,))

    def test_no_rule(self):
        for thing in NO_RULES:
            with self.subTest(thing=thing), self.assertRaises(RuleError):
                flipped(thing)


if __name__ == "__main__":
    unittest.main()
