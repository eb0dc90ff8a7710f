"""The pieces into which the foldings that a case takes fall."""

from rodturns.cases import all_spans, check_case, check_taken
from rodturns.joining import least_cases
from rodturns.rules import check_rule, is_straight
from rodturns.turning import hinges_without, reach, steps_from, taken_ways


def pieces(rule, c):
    """The tuple of all pieces, each an ascending tuple of ways, in ascending order."""
    check_rule(rule)
    check_case(c)
    taken = taken_ways(rule, c)
    hinges = hinges_without(rule, ())
    seen = {}
    found = []
    for ways in taken:
        if ways not in seen:
            piece = steps_from(taken, hinges, ways)
            seen.update(piece)
            found.append(tuple(sorted(piece)))
    return tuple(found)


def stiff(rule, c, ways):
    """The hinges, in ascending order, that are turned in no turning from this folding."""
    piece = reach(rule, c, ways)
    # A hinge that some turning turns has another state behind that turn than before it.
    return tuple([hinge for hinge in hinges_without(rule, ()) if has_one_state(piece, hinge)])


def farthest(rule, c, ways):
    """How many hinges the longest of the shortest turnings from this folding has, and the first folding for it."""
    check_rule(rule)
    check_case(c)
    check_taken(rule, c, ways)
    steps = steps_from(taken_ways(rule, c), hinges_without(rule, ()), ways)
    number = max(steps.values())
    return number, min([last for last, many in steps.items() if many == number])


def split(rule, c):
    """The first two foldings with one first letter that are not in one piece, and the piece of the first; or None."""
    rows = pieces(rule, c)
    # Pieces with one first letter stand side by side; the least folding outside of their first begins the second.
    for piece, behind in zip(rows, rows[1:]):
        if piece[0][0] == behind[0][0]:
            return piece[0], behind[0], piece
    return None


def settled(rule):
    """The least case from which on no case has a split, or None."""
    check_rule(rule)
    spans = all_spans(rule)
    hinges = hinges_without(rule, ())
    ends = [end_of_splits(spans_beginning(spans, letter), hinges) for letter in "LR"]
    if None in ends:
        return None
    return max(ends)


def has_one_state(piece, hinge):
    """Whether a hinge has the same state in all foldings of a piece."""
    return all([is_straight(ways, hinge) == is_straight(piece[0], hinge) for ways in piece])


def spans_beginning(spans, letter):
    """The part of a dict from ways to spans whose ways begin with this letter."""
    return {ways: span for ways, span in spans.items() if ways[0] == letter}


def end_of_splits(spans, hinges):
    """The least case from which on those of these foldings that are taken are in one piece, or None.

    The keys of spans are the ways of all allowed foldings that begin with one letter.
    """
    if not spans:
        return 0
    # Each case that takes any of them takes the narrowest one, so there is a split just where another one is
    # taken and no turning leads to it from the narrowest one.
    _, narrowest = min([(span, ways) for ways, span in spans.items()])
    least = least_cases(spans, hinges, narrowest)
    if len(least) < len(spans):
        return None
    return max([c for ways, c in least.items() if c > spans[ways]], default=0)
