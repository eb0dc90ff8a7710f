"""Cases: which foldings of a rule they take."""

from rodturns.errors import CaseError, WidthError
from rodturns.foldings import check_allowed, span_of, ways_after
from rodturns.kinds import is_integer
from rodturns.rules import check_rule

LONGEST_CASE = 480


def foldings(rule, c):
    """The ways of all foldings of the rule that the case takes, in ascending order."""
    check_rule(rule)
    check_case(c)
    for ways in ways_within(rule.rods, c):
        if rule.allows(ways):
            yield ways


def fits(rule, c):
    """The ways of the first folding that the case takes, or None."""
    for ways in foldings(rule, c):
        return ways
    return None


def shortest(rule):
    """The length of the least case that takes a folding, and the first folding that it takes; or None."""
    check_rule(rule)
    return min([(span, ways) for ways, span in all_spans(rule).items()], default=None)


def is_case(thing):
    """Whether any value is the length of a case."""
    return is_integer(thing) and 0 <= thing <= LONGEST_CASE


def check_case(thing):
    """Raise CaseError if a value is not the length of a case."""
    if not is_case(thing):
        raise CaseError(f"the length of a case is an integer from 0 to {LONGEST_CASE}")


def check_taken(rule, c, ways):
    """Raise an error if a value is not ways of the rule, is not allowed, or is not taken by the case."""
    check_allowed(rule, ways)
    check_width(rule, c, ways)


def check_width(rule, c, ways):
    """Raise WidthError if the case is too short for a folding that the rule allows."""
    if span_of(rule.rods, ways) > c:
        raise WidthError("the case does not take this folding")


def taken_after(rule, c, ways, hinge):
    """The ways after a turn, which must be one of a hinge of the rule and lead to a folding that the case takes."""
    after = ways_after(rule, ways, hinge)
    check_width(rule, c, after)
    return after


def takes(rule, c, ways):
    """Whether the rule allows these ways and the case takes them."""
    return rule.allows(ways) and span_of(rule.rods, ways) <= c


def all_spans(rule):
    """A dict from the ways of all foldings that the rule allows, in ascending order, to their spans."""
    rods = rule.rods
    return {ways: span_of(rods, ways) for ways in foldings(rule, LONGEST_CASE)}


def ways_within(rods, c):
    """All ways of rods of these lengths, allowed or not, whose span is at most c, in ascending order."""
    # Each row has the letters so far, the place of the last joint, and the least and the greatest place.
    rows = [("", 0, 0, 0)]
    for length in rods:
        rows = rows_with_rod(rows, length, c)
    return [row[0] for row in rows]


def rows_with_rod(rows, length, c):
    """The rows with one more rod to the left and to the right, without those that have become too wide."""
    found = []
    for ways, at, low, high in rows:
        # More rods never make a row narrower, so what is too wide now can be left out.
        if high - min(low, at - length) <= c:
            found.append((ways + "L", at - length, min(low, at - length), high))
        if max(high, at + length) - low <= c:
            found.append((ways + "R", at + length, low, max(high, at + length)))
    return found
