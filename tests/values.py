"""Values and helpers that several tests use."""

from itertools import product

NO_INTEGERS = [
    True, False, None, "", "1", "R", (), (1,), (True,), [], [1], {}, {1: 1}, {"a": [1, (2, None)]},
    [[[[[[[[3]]]]]]]], ((1, 2), "LR"),
]
NO_TEXTS = [
    True, False, None, 0, 1, 3, -1, 10 ** 13 - 1, (), ("4",), ("L", "R"), [], ["4", "-", "3"], ["R"], {}, {"4": 1},
    ("4-3", ["4-3"]), [[[[[[[["4"]]]]]]]],
]


def all_ways(many):
    """The ways of all foldings of so many rods, in ascending order."""
    return ["".join(letters) for letters in product("LR", repeat=many)]


def all_choices(many):
    """All pairs of tuples of numbers from 1 to many that have no common number."""
    found = []
    for chosen in product((0, 1, 2), repeat=many):
        one = tuple(k for k in range(1, many + 1) if chosen[k - 1] == 1)
        other = tuple(k for k in range(1, many + 1) if chosen[k - 1] == 2)
        found.append((one, other))
    return found
