"""Which error the functions of rodturns.turning raise first: "The interface", [2] and [3]."""

import unittest
from itertools import product

from rodturns.errors import CaseError, HingeError, RefusedError, RuleError, WaysError, WidthError
from rodturns.rules import Bound, Held, Rule
from rodturns.turning import direct, is_closed, is_turning, many_turnings, reach, turns
from tests.values import NO_CASES, NO_HINGES, NO_INTEGERS, NO_RULES, NO_TEXTS

# In the case 4 the folding RLR is not allowed and too wide, RRR is allowed and too wide.
RULE = Held(3, 1, 3, straight=(1,))
NO_WAYS = NO_TEXTS + ["", "RR", "RRRR", "rrl", "RRX", ["R", "R", "L"], ("R", "R", "L")]
NO_STILLS = [thing for thing in NO_INTEGERS if thing not in ((), (1,))] + [(True,)]
NO_STILLS += [(thing,) for thing in NO_HINGES] + [(1, thing) for thing in NO_HINGES]
NO_STILLS += [[1, 2], [1], (2, 1), (1, 1), (1, 2, 2), (3,), (1, 3), (1, 2, 3), (0, 1), {1: 2}]

RIGHT = {"rule": RULE, "c": 4, "first": "RRL", "last": "RRL", "thing": (), "still": ()}
# Without the option still, for the functions that do not have it.
RIGHT_FOR = {True: RIGHT, False: {name: RIGHT[name] for name in RIGHT if name != "still"}}
WRONG = {
    "rule": [(RuleError, thing) for thing in NO_RULES],
    "c": [(CaseError, thing) for thing in NO_CASES],
    "first": [(WaysError, thing) for thing in NO_WAYS] + [(RefusedError, "RLR"), (WidthError, "RRR")],
    "last": [(WaysError, thing) for thing in NO_WAYS] + [(RefusedError, "RLR"), (WidthError, "RRR")],
    "still": [(HingeError, thing) for thing in NO_STILLS],
}
FUNCTIONS = [
    (turns, ["rule", "c", "first", "last"], True),
    (is_turning, ["rule", "c", "first", "last", "thing"], True),
    (reach, ["rule", "c", "first"], True),
    (is_closed, ["rule", "c", "thing"], True),
    (many_turnings, ["rule", "c", "first", "last"], False),
    (direct, ["rule", "c", "first", "last"], False),
]


class TurningErrorsTest(unittest.TestCase):

    def assert_error(self, error, function, names, given):
        options = {"still": given["still"]} if "still" in given else {}
        with self.subTest(function=function.__name__, given=given):
            with self.assertRaises(error) as caught:
                function(*[given[name] for name in names], **options)
            self.assertIs(type(caught.exception), error)

    def test_one_wrong_argument(self):
        for function, names, has_still in FUNCTIONS:
            for name in names + ["still"] * has_still:
                for error, thing in WRONG.get(name, []):
                    self.assert_error(error, function, names, {**RIGHT_FOR[has_still], name: thing})

    def test_several_wrong_arguments(self):
        for function, names, has_still in FUNCTIONS:
            checked = [name for name in names + ["still"] * has_still if name in WRONG]
            choices = [[None] + WRONG[name][:1] + WRONG[name][-2:] for name in checked]
            for chosen in product(*choices):
                wrong = [(name, one) for name, one in zip(checked, chosen) if one is not None]
                if wrong:
                    given = {**RIGHT_FOR[has_still], **{name: one[1] for name, one in wrong}}
                    self.assert_error(wrong[0][1][0], function, names, given)

    def test_wrong_things_raise_nothing_and_hide_nothing(self):
        for thing in NO_INTEGERS + NO_TEXTS + [(0,), (True,), ("RLR",)]:
            for function, names, has_still in FUNCTIONS:
                if "thing" in names:
                    for name in names + ["still"]:
                        for error, wrong in WRONG.get(name, [])[-2:]:
                            given = {**RIGHT_FOR[has_still], "thing": thing, name: wrong}
                            self.assert_error(error, function, names, given)
                    answer = function(*[{**RIGHT, "thing": thing}[name] for name in names])
                    self.assertIs(answer, thing == ())

    def test_refused_before_too_wide(self):
        for function, names, has_still in FUNCTIONS:
            if "first" in names:
                given = {**RIGHT_FOR[has_still], "c": 3}
                self.assert_error(WidthError, function, names, given)
                self.assert_error(WidthError, function, names, {**given, "c": 0})
                self.assert_error(RefusedError, function, names, {**given, "first": "RLR"})

    def test_rule_that_allows_nothing(self):
        rule = Bound(3, 1, 3, folded=(1, 2), right=(1,), left=(3,))
        for function, names, has_still in FUNCTIONS:
            given = {**RIGHT_FOR[has_still], "rule": rule, "c": 480}
            if "first" in names:
                self.assert_error(RefusedError, function, names, given)
                self.assert_error(WaysError, function, names, {**given, "first": "RR"})
        self.assertIs(is_closed(rule, 480, ()), True)
        self.assertIs(is_closed(rule, 480, ("RRL",)), False)

    def test_one_rod_has_no_hinge_to_be_still(self):
        for still in [(0,), (1,), (2,), (True,)]:
            given = {"rule": Rule(5), "c": 5, "first": "R", "last": "R", "thing": (), "still": still}
            for function, names, has_still in FUNCTIONS:
                if has_still:
                    self.assert_error(HingeError, function, names, given)

    def test_still_by_keyword_only(self):
        with self.assertRaises(TypeError):
            turns(RULE, 4, "RRL", "RRL", ())
        with self.assertRaises(TypeError):
            direct(RULE, 4, "RRL", "RRL", still=())


if __name__ == "__main__":
    unittest.main()
