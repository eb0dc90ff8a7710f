"""Rules: rows of rods, whose hinges may be locked and whose rods may be aimed."""

from rodturns.errors import LockError, RodsError, RuleError, WaysError
from rodturns.kinds import is_integer
from rodturns.marks import FREE, NO_AIMS, cut

OPTIONS = ("straight", "folded", "right", "left")


class Rule:
    """A row of rods that are joined by hinges."""

    MOST_RODS = 12
    MOST_LENGTH = 40

    def __init__(self, *rods):
        if not 1 <= len(rods) <= Rule.MOST_RODS:
            raise RodsError(f"a rule has 1 to {Rule.MOST_RODS} rods")
        if not all([Rule.is_rod(rod) for rod in rods]):
            raise RodsError(f"the length of a rod is an integer from 1 to {Rule.MOST_LENGTH}")
        self._rods = rods

    @property
    def rods(self):
        """The lengths of the rods."""
        return list(self._rods)

    @property
    def total(self):
        """The sum of the lengths."""
        return sum(self._rods)

    def allows(self, ways):
        """Whether a folding of the rule is allowed; a Rule allows each."""
        if not is_ways(ways, len(self._rods)):
            raise WaysError("the ways of a folding are one letter L or R for each rod")
        return True

    def options(self):
        """The options of the rule by their names: none."""
        return {}

    @staticmethod
    def is_rod(thing):
        """Whether any value is the length of a rod."""
        return is_integer(thing) and 1 <= thing <= Rule.MOST_LENGTH

    @classmethod
    def plain(cls, text):
        """The rule with a text in which each hinge is free and no rod is aimed."""
        rods = cut(text, Rule.MOST_RODS, Rule.MOST_LENGTH, FREE, NO_AIMS)[0]
        return cls(*rods)


class Held(Rule):
    """A rule some of whose hinges are locked, straight or folded."""

    def __init__(self, *rods, straight=(), folded=()):
        Rule.__init__(self, *rods)
        self._straight, self._folded = option_pair(straight, folded, len(rods) - 1)

    def allows(self, ways):
        """Whether each locked hinge has its state, and all else is allowed, too."""
        return super().allows(ways) and keeps_hinges(ways, self._straight, self._folded)

    def options(self):
        """The options straight and folded."""
        return {"straight": self._straight, "folded": self._folded}


class Aimed(Rule):
    """A rule some of whose rods must go right or left."""

    def __init__(self, *rods, right=(), left=()):
        Rule.__init__(self, *rods)
        self._right, self._left = option_pair(right, left, len(rods))

    def allows(self, ways):
        """Whether each aimed rod has its letter, and all else is allowed, too."""
        return super().allows(ways) and keeps_rods(ways, self._right, self._left)

    def options(self):
        """The options right and left."""
        return {"right": self._right, "left": self._left}


class Bound(Held, Aimed):
    """A rule with locked hinges and aimed rods."""

    def __init__(self, *rods, straight=(), folded=(), right=(), left=()):
        Held.__init__(self, *rods, straight=straight, folded=folded)
        Aimed.__init__(self, *rods, right=right, left=left)

    def options(self):
        """All four options."""
        return {
            "straight": self._straight,
            "folded": self._folded,
            "right": self._right,
            "left": self._left,
        }


def flipped(rule):
    """The rule read from its other end."""
    check_rule(rule)
    rods = rule.rods[::-1]
    given = all_options(rule)
    straight = from_other_end(given["straight"], len(rods) - 1)
    folded = from_other_end(given["folded"], len(rods) - 1)
    # What went right goes left for one who looks from the other end.
    right = from_other_end(given["left"], len(rods))
    left = from_other_end(given["right"], len(rods))
    return Bound(*rods, straight=straight, folded=folded, right=right, left=left)


def check_rule(thing):
    """Raise RuleError if a value is not a rule."""
    if not isinstance(thing, Rule):
        raise RuleError("this is not a rule")


def all_options(rule):
    """The options of a rule as a Bound has them, () for those that the rule lacks."""
    given = rule.options()
    return {name: given.get(name, ()) for name in OPTIONS}


def is_ways(thing, many):
    """Whether any value is the ways of a folding of so many rods."""
    return isinstance(thing, str) and len(thing) == many and all([letter in "LR" for letter in thing])


def is_straight(ways, hinge):
    """Whether a hinge is straight in a folding; otherwise it is folded."""
    return ways[hinge - 1] == ways[hinge]


def keeps_hinges(ways, straight, folded):
    """Whether these hinges are straight, and those folded, in a folding."""
    return all([is_straight(ways, k) for k in straight]) and not any([is_straight(ways, k) for k in folded])


def keeps_rods(ways, right, left):
    """Whether these rods go right, and those left, in a folding."""
    return all([ways[k - 1] == "R" for k in right]) and all([ways[k - 1] == "L" for k in left])


def option_pair(one, other, most):
    """Two options of which no number can be in both, each in ascending order."""
    check_option(one, most)
    check_option(other, most)
    if any([k in other for k in one]):
        raise LockError("a number is in two options that exclude each other")
    return tuple(sorted(one)), tuple(sorted(other))


def check_option(thing, most):
    """Raise LockError if a value is not a tuple of different numbers from 1 to most."""
    if not isinstance(thing, tuple):
        raise LockError("an option is a tuple")
    if not all([is_integer(k) and 1 <= k <= most for k in thing]):
        raise LockError(f"the numbers of this option are integers from 1 to {most}")
    if len(set(thing)) != len(thing):
        raise LockError("the numbers of an option are different ones")


def from_other_end(numbers, many):
    """Numbers from 1 to many, counted from the other end."""
    return tuple([many + 1 - k for k in numbers])
