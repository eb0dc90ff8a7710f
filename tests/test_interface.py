"""Every name of the interface exists where it is listed, with its arguments."""

import inspect
import unittest

from rodturns import rules, texts
from rodturns.rules import Aimed, Bound, Held, Rule


def arguments(function):
    """The names of the arguments of a function; a star stands before what takes the rest."""
    found = []
    for name, parameter in inspect.signature(function).parameters.items():
        if parameter.kind == inspect.Parameter.VAR_POSITIONAL:
            found.append("*" + name)
        elif parameter.kind == inspect.Parameter.KEYWORD_ONLY:
            found.append((name, parameter.default))
        else:
            found.append(name)
    return found


class InterfaceTest(unittest.TestCase):

    def test_defined_where_listed(self):
        for made in [Rule, Held, Aimed, Bound, rules.flipped]:
            self.assertEqual(made.__module__, "rodturns.rules")
        for function in [texts.written, texts.read]:
            self.assertEqual(function.__module__, "rodturns.texts")

    def test_members_of_rule(self):
        own = vars(Rule)
        self.assertEqual((own["MOST_RODS"], own["MOST_LENGTH"]), (12, 40))
        for name in ["rods", "total"]:
            self.assertIsInstance(own[name], property)
        self.assertIsInstance(own["is_rod"], staticmethod)
        self.assertIsInstance(own["plain"], classmethod)
        self.assertEqual(arguments(own["allows"]), ["self", "ways"])
        for made in [Rule, Held, Aimed, Bound]:
            self.assertEqual(arguments(vars(made)["options"]), ["self"])

    def test_arguments(self):
        self.assertEqual(arguments(Rule), ["*rods"])
        held = [("straight", ()), ("folded", ())]
        aimed = [("right", ()), ("left", ())]
        self.assertEqual(arguments(Held), ["*rods"] + held)
        self.assertEqual(arguments(Aimed), ["*rods"] + aimed)
        self.assertEqual(arguments(Bound), ["*rods"] + held + aimed)
        self.assertEqual(arguments(Rule.is_rod), ["thing"])
        self.assertEqual(arguments(Rule.plain), ["text"])
        self.assertEqual(arguments(rules.flipped), ["rule"])
        self.assertEqual(arguments(texts.written), ["rule"])
        self.assertEqual(arguments(texts.read), ["text"])


if __name__ == "__main__":
    unittest.main()
