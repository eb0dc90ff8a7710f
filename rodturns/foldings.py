"""Foldings of a rule: their ways, the places of their joints, and turning their hinges."""

from rodturns.errors import HingeError, RefusedError
from rodturns.kinds import is_integer
from rodturns.rules import check_rule


class Folding:
    """A folding of a rule along a line."""

    def __init__(self, rule, ways):
        check_rule(rule)
        check_allowed(rule, ways)
        self._rule = rule
        self._ways = ways

    @property
    def ways(self):
        """One letter L or R for each rod."""
        return self._ways

    @ways.setter
    def ways(self, value):
        self.assign(value)

    @property
    def places(self):
        """The places of all joints, from joint 0."""
        return places_of(self._rule.rods, self._ways)

    @property
    def span(self):
        """The greatest of the places minus the least."""
        return span_of(self._rule.rods, self._ways)

    def assign(self, ways):
        """Replace the folding by the one with these ways."""
        check_allowed(self._rule, ways)
        self._ways = ways

    def turn(self, hinge):
        """Turn a hinge of this folding."""
        self._ways = ways_after(self._rule, self._ways, hinge)

    def turned(self, *hinges):
        """A new folding in which these hinges have been turned one after another."""
        ways = self._ways
        for hinge in hinges:
            ways = ways_after(self._rule, ways, hinge)
        return Folding(self._rule, ways)


def check_allowed(rule, ways):
    """Raise WaysError if a value is not ways of the rule, RefusedError if the rule does not allow them."""
    if not rule.allows(ways):
        raise RefusedError("the rule does not allow this folding")


def is_hinge(rule, thing):
    """Whether any value is a hinge of the rule."""
    return is_integer(thing) and 1 <= thing < len(rule.rods)


def ways_after(rule, ways, hinge):
    """The ways after a turn, which must be one of a hinge of the rule and lead to an allowed folding."""
    if not is_hinge(rule, hinge):
        raise HingeError("this is not a hinge of the rule")
    after = exchanged_behind(ways, hinge)
    check_allowed(rule, after)
    return after


def exchanged_behind(ways, hinge):
    """The ways with L and R exchanged in all letters behind the one before the hinge."""
    return ways[:hinge] + ways[hinge:].translate({ord("L"): "R", ord("R"): "L"})


def places_of(rods, ways):
    """The places of all joints of rods of these lengths."""
    found = [0]
    for length, letter in zip(rods, ways):
        step = length if letter == "R" else -length
        found.append(found[-1] + step)
    return found


def span_of(rods, ways):
    """The greatest of the places of the joints minus the least."""
    found = places_of(rods, ways)
    return max(found) - min(found)
