"""The text of a rule: writing it and reading it."""

from rodturns.marks import AIMS, FOLDED, FREE, HINGES, LEFT, RIGHT, STRAIGHT, cut
from rodturns.rules import Bound, Rule, all_options, check_rule


def written(rule):
    """The text of a rule."""
    check_rule(rule)
    rods = rule.rods
    given = all_options(rule)
    parts = []
    for k, length in enumerate(rods, start=1):
        parts.append(f"{length}{aim_mark(k, given)}")
        if k < len(rods):
            parts.append(hinge_mark(k, given))
    return "".join(parts)


def read(text):
    """The Bound with this text."""
    rods, hinges, aims = cut(text, Rule.MOST_RODS, Rule.MOST_LENGTH, HINGES, AIMS)
    straight = numbers_of(STRAIGHT, hinges)
    folded = numbers_of(FOLDED, hinges)
    right = numbers_of(RIGHT, aims)
    left = numbers_of(LEFT, aims)
    return Bound(*rods, straight=straight, folded=folded, right=right, left=left)


def hinge_mark(hinge, given):
    """The mark of a hinge under these options."""
    if hinge in given["straight"]:
        return STRAIGHT
    if hinge in given["folded"]:
        return FOLDED
    return FREE


def aim_mark(rod, given):
    """The mark of a rod's aim under these options, empty if it has none."""
    if rod in given["right"]:
        return RIGHT
    if rod in given["left"]:
        return LEFT
    return ""


def numbers_of(mark, row):
    """The numbers, counted from 1, at which a mark stands in a row of marks."""
    return tuple([k for k, other in enumerate(row, start=1) if other == mark])
