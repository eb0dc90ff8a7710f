"""The least case in which a turning leads from one folding to another."""

from heapq import heappop, heappush

from rodturns.cases import all_spans, is_case, takes
from rodturns.foldings import check_allowed
from rodturns.rules import check_rule
from rodturns.turning import hinges_without, is_closed, is_turning, next_ways, reach, turns


def joining(rule, first, last):
    """The least case with a turning, this turning, and what is reached in the case before it; or None."""
    check_pair(rule, first, last)
    least = least_cases(all_spans(rule), hinges_without(rule, ()), first)
    if last not in least:
        return None
    c = least[last]
    closed = None
    if takes_both(rule, c - 1, first, last):
        closed = reach(rule, c - 1, first)
    return c, turns(rule, c, first, last), closed


def is_joining(rule, first, last, thing):
    """Whether any value shows the least case that joins the two foldings."""
    check_pair(rule, first, last)
    if not isinstance(thing, tuple) or len(thing) != 3:
        return False
    c, turning, closed = thing
    if not is_case(c) or not takes_both(rule, c, first, last):
        return False
    if not is_turning(rule, c, first, last, turning):
        return False
    if not takes_both(rule, c - 1, first, last):
        return closed is None
    return is_closed(rule, c - 1, closed) and first in closed and last not in closed


def check_pair(rule, first, last):
    """Check the rule and both foldings, in this order."""
    check_rule(rule)
    check_allowed(rule, first)
    check_allowed(rule, last)


def takes_both(rule, c, first, last):
    """Whether the case takes both foldings."""
    return takes(rule, c, first) and takes(rule, c, last)


def least_cases(spans, hinges, start):
    """A dict from the ways to which turnings lead from start, in any case, to the least case with such a turning.

    The keys of spans are the ways of all foldings that may lie between.
    """
    least = {}
    queue = [(spans[start], start)]
    while queue:
        # What waits in the queue, and what is found behind it, needs at least this case.
        c, ways = heappop(queue)
        if ways not in least:
            least[ways] = c
            for other in next_ways(spans, hinges, ways):
                if other not in least:
                    heappush(queue, (max(c, spans[other]), other))
    return least
