"""Turning hinges one after another inside a case: shortest turnings, and closed tuples of foldings."""

from rodturns.cases import check_case, check_taken, foldings, takes
from rodturns.errors import HingeError
from rodturns.foldings import exchanged_behind, is_hinge
from rodturns.rules import check_rule, is_straight


def turns(rule, c, first, last, *, still=()):
    """The first of the turnings with the fewest hinges, or None."""
    check_ends(rule, c, first, last)
    check_still(rule, still)
    hinges = hinges_without(rule, still)
    left = steps_from(taken_ways(rule, c), hinges, last)
    if first not in left:
        return None
    turning = []
    at = first
    while at != last:
        hinge = nearer_hinges(left, hinges, at)[0]
        turning.append(hinge)
        at = exchanged_behind(at, hinge)
    return tuple(turning)


def is_turning(rule, c, first, last, thing, *, still=()):
    """Whether any value is a turning from the first folding to the last one."""
    check_ends(rule, c, first, last)
    check_still(rule, still)
    if not isinstance(thing, tuple):
        return False
    at = first
    for hinge in thing:
        if not is_hinge(rule, hinge) or hinge in still:
            return False
        at = exchanged_behind(at, hinge)
        if not takes(rule, c, at):
            return False
    return at == last


def reach(rule, c, first, *, still=()):
    """The ways of all foldings to which turnings lead from the first one, in ascending order."""
    check_rule(rule)
    check_case(c)
    check_taken(rule, c, first)
    check_still(rule, still)
    return tuple(sorted(steps_from(taken_ways(rule, c), hinges_without(rule, still), first)))


def is_closed(rule, c, thing, *, still=()):
    """Whether any value is a closed tuple of ways."""
    check_rule(rule)
    check_case(c)
    check_still(rule, still)
    taken = taken_ways(rule, c)
    # Only texts are looked up: what is no text may have no hash and no order.
    if not isinstance(thing, tuple) or not all([isinstance(ways, str) and ways in taken for ways in thing]):
        return False
    if not is_ascending(thing):
        return False
    hinges = hinges_without(rule, still)
    inside = {ways: True for ways in thing}
    return all([other in inside for ways in thing for other in next_ways(taken, hinges, ways)])


def many_turnings(rule, c, first, last):
    """How many turnings have the fewest hinges."""
    check_ends(rule, c, first, last)
    hinges = hinges_without(rule, ())
    left = steps_from(taken_ways(rule, c), hinges, last)
    if first not in left:
        return 0
    many = {first: 1}
    for _ in range(left[first]):
        many = one_step_nearer(left, hinges, many)
    return many[last]


def direct(rule, c, first, last):
    """The first turning that turns each hinge with another state once, and no other hinge; or None."""
    turning = turns(rule, c, first, last)
    # Each hinge with another state is turned at least once, so a turning with no more hinges than these is
    # a direct one, and each direct one has the fewest hinges.
    if turning is None or len(turning) > many_changed(first, last):
        return None
    return turning


def check_ends(rule, c, first, last):
    """Check the rule, the case and both foldings, in this order."""
    check_rule(rule)
    check_case(c)
    check_taken(rule, c, first)
    check_taken(rule, c, last)


def check_still(rule, thing):
    """Raise HingeError if a value is not a tuple of different hinges of the rule in ascending order."""
    if not isinstance(thing, tuple) or not all([is_hinge(rule, hinge) for hinge in thing]):
        raise HingeError("the hinges that are not turned are a tuple of hinges of the rule")
    if not is_ascending(thing):
        raise HingeError("the hinges that are not turned are different ones in ascending order")


def is_ascending(row):
    """Whether each item is greater than the one before it."""
    return all([one < other for one, other in zip(row, row[1:])])


def hinges_without(rule, still):
    """The hinges of the rule that may be turned, in ascending order."""
    return [hinge for hinge in range(1, len(rule.rods)) if hinge not in still]


def taken_ways(rule, c):
    """A dict whose keys are the ways of all foldings that the case takes."""
    return {ways: True for ways in foldings(rule, c)}


def next_ways(taken, hinges, ways):
    """The ways to which one turn of one of these hinges leads, as far as they are taken."""
    after = [exchanged_behind(ways, hinge) for hinge in hinges]
    return [other for other in after if other in taken]


def steps_from(taken, hinges, start):
    """A dict from the ways that are reached from start to the number of turns that this takes at least."""
    steps = {start: 0}
    layer = [start]
    while layer:
        further = []
        for ways in layer:
            for other in next_ways(taken, hinges, ways):
                if other not in steps:
                    steps[other] = steps[ways] + 1
                    further.append(other)
        layer = further
    return steps


def nearer_hinges(left, hinges, ways):
    """The hinges whose turn leaves one turn less to make; left tells how many turns are left from where."""
    # A turn that is not taken leads to ways that left does not have.
    return [hinge for hinge in hinges if left.get(exchanged_behind(ways, hinge), left[ways]) < left[ways]]


def one_step_nearer(left, hinges, many):
    """How often each folding is arrived at with one more turn, where many tells it for those before."""
    found = {}
    for ways, arrivals in many.items():
        for hinge in nearer_hinges(left, hinges, ways):
            other = exchanged_behind(ways, hinge)
            found[other] = found.get(other, 0) + arrivals
    return found


def many_changed(first, last):
    """How many hinges have another state in the last folding than in the first one."""
    return len([k for k in range(1, len(first)) if is_straight(first, k) != is_straight(last, k)])
