"""Values and helpers that several tests use."""

from itertools import combinations, product

from rodturns.rules import Aimed, Bound, Held, Rule

NO_INTEGERS = [
    True, False, None, "", "1", "R", (), (1,), (True,), [], [1], {}, {1: 1}, {"a": [1, (2, None)]},
    [[[[[[[[3]]]]]]]], ((1, 2), "LR"),
]
NO_TEXTS = [
    True, False, None, 0, 1, 3, -1, 10 ** 13 - 1, (), ("4",), ("L", "R"), [], ["4", "-", "3"], ["R"], {}, {"4": 1},
    ("4-3", ["4-3"]), [[[[[[[["4"]]]]]]]],
]


def all_ways(many):
    """The ways of all foldings of so many rods, in ascending order."""
    return ["".join(letters) for letters in product("LR", repeat=many)]


def all_choices(many):
    """All pairs of tuples of numbers from 1 to many that have no common number."""
    found = []
    for chosen in product((0, 1, 2), repeat=many):
        one = tuple(k for k in range(1, many + 1) if chosen[k - 1] == 1)
        other = tuple(k for k in range(1, many + 1) if chosen[k - 1] == 2)
        found.append((one, other))
    return found


# What is no rule, no case and no hinge of any rule; some tests add what is none of their own rule only.
NO_RULES = NO_INTEGERS + NO_TEXTS + [Rule, Bound, [Rule(1)], (Rule(1),), (3, 1, 3), [3, 1, 3], "3-1-3", {1: Rule(1)}]
NO_CASES = NO_INTEGERS + ["480", [4], (4,), -1, 481, -480, 482, 10 ** 13 - 1, -10 ** 13 + 1]
NO_HINGES = NO_INTEGERS + [0, -1, 12, 13, 10 ** 13 - 1, -10 ** 13 + 1, [1], ("1",)]

# Small rules of each class, with one rod and with several, free and not, and some that allow nothing.
SMALL_RULES = [
    Rule(5), Rule(40), Rule(2, 2), Rule(1, 3), Rule(3, 1, 3), Rule(1, 1, 1), Rule(4, 2, 1), Rule(2, 3, 2, 3),
    Rule(1, 2, 1, 3), Rule(5, 4, 3, 4, 5),
    Held(3, 1, 3, straight=(1,)), Held(3, 1, 3, folded=(2,)), Held(2, 1, 2, 3, straight=(2,), folded=(3,)),
    Held(2, 3, 1, 2, 4, folded=(4, 1)), Held(1, 2, straight=(1,)),
    Aimed(5, right=(1,)), Aimed(3, 1, 3, right=(1,), left=(3,)), Aimed(3, 1, 3, left=(2,)),
    Aimed(1, 2, 3, 2, left=(1,), right=(4,)), Aimed(3, 2, 1, 2, 3, right=(3,)), Aimed(3, 2, 3, 1, 2, right=(5, 2)),
    Bound(3, 1, 3, folded=(2,), right=(1,)), Bound(2, 1, 2, 3, straight=(1,), left=(4,)),
    Bound(2, 1, 3, 3, 1, folded=(2,), left=(1,), right=(4,)), Bound(3, 1, 2),
    Bound(3, 1, straight=(1,), right=(1,), left=(2,)), Bound(3, 1, 3, folded=(1, 2), right=(1,), left=(3,)),
]


def plain_places(rods, ways):
    """The places of all joints, each summed up from the beginning."""
    steps = [-length if letter == "L" else length for length, letter in zip(rods, ways)]
    return [sum(steps[:k]) for k in range(len(steps) + 1)]


def plain_span(rods, ways):
    """The greatest distance between two joints."""
    places = plain_places(rods, ways)
    return max(one - other for one in places for other in places)


def plain_turn(ways, hinge):
    """The ways after a turn, letter by letter."""
    letters = list(ways)
    for at in range(hinge, len(letters)):
        letters[at] = "R" if letters[at] == "L" else "L"
    return "".join(letters)


def is_allowed(ways, straight=(), folded=(), right=(), left=()):
    """Whether ways agree with the options, letter by letter."""
    for at in range(len(ways) - 1):
        state = "straight" if ways[at:at + 2] in ("LL", "RR") else "folded"
        if at + 1 in straight and state != "straight" or at + 1 in folded and state != "folded":
            return False
    for at, letter in enumerate(ways):
        if at + 1 in right and letter != "R" or at + 1 in left and letter != "L":
            return False
    return True


def plain_foldings(rule, c):
    """The ways of all foldings that a case takes, picked from all ways."""
    rods = rule.rods
    return [
        ways for ways in all_ways(len(rods)) if is_allowed(ways, **rule.options()) and plain_span(rods, ways) <= c
    ]


def shortest_turnings(taken, hinges, first):
    """For each folding that is reached from first, all turnings with the fewest hinges: a search by layers."""
    found = {first: [()]}
    layer = {first: [()]}
    while layer:
        further = {}
        for ways, turnings in layer.items():
            for hinge in hinges:
                other = plain_turn(ways, hinge)
                if other in taken and other not in found:
                    further.setdefault(other, []).extend(turning + (hinge,) for turning in turnings)
        found.update(further)
        layer = further
    return found


def all_stills(many):
    """Each tuple of hinges of so many rods in ascending order."""
    hinges = range(1, many)
    return [still for size in range(many) for still in combinations(hinges, size)]


def plain_reach(taken, first):
    """All foldings to which turnings lead from first, in ascending order."""
    return tuple(sorted(shortest_turnings(taken, range(1, len(first)), first)))


def spans_of(rule):
    """The spans of all foldings that a rule allows, in ascending order, each once."""
    return sorted({plain_span(rule.rods, ways) for ways in plain_foldings(rule, 480)})


def error_of(function, *arguments):
    """The class of the exception that a call raises, or None."""
    try:
        function(*arguments)
    except Exception as raised:
        return type(raised)
    return None


NO_WAYS = NO_TEXTS + ["", "L" * 13, "RL" * 7, "rrl", "RRX", "RR L", "L" * 300, ["R", "R", "L"], ("R", "R", "L")]

# Rules with 12 rods, free ones and ones with locks and aims.
TWELVE_RULES = [
    Rule(*range(1, 13)), Rule(*[40] * 12), Rule(*[3, 1, 4, 1, 5, 9, 2, 6, 5, 3, 5, 8]),
    Held(9, 4, 7, 7, 2, 8, 3, 5, 9, 1, 6, 6, straight=(4,), folded=(7,)),
    Aimed(40, 1, 39, 2, 38, 3, 37, 4, 36, 5, 35, 6, right=(1,), left=(12,)),
    Bound(5, 8, 3, 9, 7, 2, 6, 4, 10, 1, 5, 7, straight=(2,), folded=(9,), left=(6,)),
]

# Rules many of whose foldings are joined only in a case longer than both spans, so that shorter cases have a split.
NARROW_RULES = [
    Rule(5, 1, 1, 5), Rule(4, 1, 5, 1), Rule(3, 1, 1, 2, 5), Rule(4, 1, 1, 1, 4), Held(5, 1, 1, 5, 2, folded=(4,)),
    Held(5, 1, 1, 5, straight=(2,)), Held(4, 1, 4, 1, 3, straight=(3,)), Aimed(4, 1, 1, 4, 1, right=(2,)),
    Aimed(1, 4, 1, 1, 4, left=(1,)), Bound(4, 1, 1, 1, 4, folded=(2,), right=(1,)),
    Bound(5, 1, 1, 5, 2, folded=(4,), left=(3,)),
]
