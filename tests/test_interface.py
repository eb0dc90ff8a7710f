"""Every name of the interface exists where it is listed, with its arguments."""

import inspect
import unittest

from rodturns import cases, joining, pieces, rules, texts, turning
from rodturns.foldings import Folding
from rodturns.hands import Hand
from rodturns.rules import Aimed, Bound, Held, Rule


def arguments(function):
    """The names of the arguments of a function; a star stands before what takes the rest."""
    found = []
    for name, parameter in inspect.signature(function).parameters.items():
        if parameter.kind == inspect.Parameter.VAR_POSITIONAL:
            found.append("*" + name)
        elif parameter.kind == inspect.Parameter.KEYWORD_ONLY:
            found.append((name, parameter.default))
        else:
            found.append(name)
    return found


class InterfaceTest(unittest.TestCase):

    def test_defined_where_listed(self):
        for made in [Rule, Held, Aimed, Bound, rules.flipped]:
            self.assertEqual(made.__module__, "rodturns.rules")
        for function in [texts.written, texts.read]:
            self.assertEqual(function.__module__, "rodturns.texts")
        self.assertEqual(Folding.__module__, "rodturns.foldings")
        for function in [cases.foldings, cases.fits, cases.shortest]:
            self.assertEqual(function.__module__, "rodturns.cases")
        for name in ["turns", "is_turning", "reach", "is_closed", "many_turnings", "direct"]:
            self.assertEqual(getattr(turning, name).__module__, "rodturns.turning")
        for function in [joining.joining, joining.is_joining]:
            self.assertEqual(function.__module__, "rodturns.joining")
        for name in ["pieces", "stiff", "farthest", "split", "settled"]:
            self.assertEqual(getattr(pieces, name).__module__, "rodturns.pieces")
        self.assertEqual(Hand.__module__, "rodturns.hands")

    def test_members_of_rule(self):
        own = vars(Rule)
        self.assertEqual((own["MOST_RODS"], own["MOST_LENGTH"]), (12, 40))
        for name in ["rods", "total"]:
            self.assertIsInstance(own[name], property)
        self.assertIsInstance(own["is_rod"], staticmethod)
        self.assertIsInstance(own["plain"], classmethod)
        self.assertEqual(arguments(own["allows"]), ["self", "ways"])
        for made in [Rule, Held, Aimed, Bound]:
            self.assertEqual(arguments(vars(made)["options"]), ["self"])

    def test_members_of_folding(self):
        own = vars(Folding)
        for name in ["ways", "places", "span"]:
            self.assertIsInstance(own[name], property)
            self.assertEqual(own[name].fset is not None, name == "ways")
        self.assertEqual(arguments(own["assign"]), ["self", "ways"])
        self.assertEqual(arguments(own["turn"]), ["self", "hinge"])
        self.assertEqual(arguments(own["turned"]), ["self", "*hinges"])

    def test_members_of_hand(self):
        own = vars(Hand)
        for name in ["ways", "case", "changes"]:
            self.assertIsInstance(own[name], property)
            self.assertEqual(own[name].fset is not None, name != "changes")
        self.assertEqual(arguments(own["assign"]), ["self", "ways"])
        self.assertEqual(arguments(own["take"]), ["self", "case"])
        self.assertEqual(arguments(own["turn"]), ["self", "hinge"])
        self.assertEqual(arguments(own["go_to"]), ["self", "ways"])
        for name in ["go", "look"]:
            self.assertEqual(arguments(own[name]), ["self", "*hinges"])
        for name in ["undo", "trying"]:
            self.assertEqual(arguments(own[name]), ["self"])

    def test_arguments(self):
        self.assertEqual(arguments(Rule), ["*rods"])
        held = [("straight", ()), ("folded", ())]
        aimed = [("right", ()), ("left", ())]
        self.assertEqual(arguments(Held), ["*rods"] + held)
        self.assertEqual(arguments(Aimed), ["*rods"] + aimed)
        self.assertEqual(arguments(Bound), ["*rods"] + held + aimed)
        self.assertEqual(arguments(Rule.is_rod), ["thing"])
        self.assertEqual(arguments(Rule.plain), ["text"])
        self.assertEqual(arguments(rules.flipped), ["rule"])
        self.assertEqual(arguments(texts.written), ["rule"])
        self.assertEqual(arguments(texts.read), ["text"])
        self.assertEqual(arguments(Folding), ["rule", "ways"])
        self.assertEqual(arguments(cases.foldings), ["rule", "c"])
        self.assertEqual(arguments(cases.fits), ["rule", "c"])
        self.assertEqual(arguments(cases.shortest), ["rule"])

    def test_arguments_of_turning(self):
        ends = ["rule", "c", "first", "last"]
        still = [("still", ())]
        self.assertEqual(arguments(turning.turns), ends + still)
        self.assertEqual(arguments(turning.is_turning), ends + ["thing"] + still)
        self.assertEqual(arguments(turning.reach), ["rule", "c", "first"] + still)
        self.assertEqual(arguments(turning.is_closed), ["rule", "c", "thing"] + still)
        self.assertEqual(arguments(turning.many_turnings), ends)
        self.assertEqual(arguments(turning.direct), ends)

    def test_arguments_of_joining_pieces_and_hands(self):
        self.assertEqual(arguments(joining.joining), ["rule", "first", "last"])
        self.assertEqual(arguments(joining.is_joining), ["rule", "first", "last", "thing"])
        self.assertEqual(arguments(pieces.pieces), ["rule", "c"])
        self.assertEqual(arguments(pieces.stiff), ["rule", "c", "ways"])
        self.assertEqual(arguments(pieces.farthest), ["rule", "c", "ways"])
        self.assertEqual(arguments(pieces.split), ["rule", "c"])
        self.assertEqual(arguments(pieces.settled), ["rule"])
        self.assertEqual(arguments(Hand), ["rule", "c", "ways"])

    def test_arguments_by_name(self):
        rule = Rule(3, 1, 3)
        self.assertEqual(joining.joining(rule=rule, first="RRL", last="RRL"), (4, (), None))
        self.assertIs(joining.is_joining(rule=rule, first="RRL", last="RRL", thing=(4, (), None)), True)
        self.assertEqual(pieces.stiff(rule=rule, c=4, ways="RRL"), (1, 2))
        hand = Hand(rule=rule, c=4, ways="RRL")
        hand.assign(ways="RLL")
        hand.take(case=5)
        hand.turn(hinge=2)
        self.assertEqual(hand.go_to(ways="RRL"), (1,))


if __name__ == "__main__":
    unittest.main()
