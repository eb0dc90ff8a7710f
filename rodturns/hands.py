"""A hand that holds a folded rule in a case."""

from rodturns.cases import check_case, check_taken, check_width, taken_after
from rodturns.errors import ApartError, NothingError
from rodturns.rules import check_rule
from rodturns.turning import reach, turns


class Hand:
    """A folded rule in a case, whose changes can be taken back."""

    def __init__(self, rule, c, ways):
        check_rule(rule)
        check_case(c)
        check_taken(rule, c, ways)
        self._rule = rule
        # The ways and the case after each change: the first pair stood before all changes, the last one is now.
        self._states = [(ways, c)]

    @property
    def ways(self):
        """The ways of the folding."""
        return self._states[-1][0]

    @ways.setter
    def ways(self, value):
        self.assign(value)

    @property
    def case(self):
        """The length of the case."""
        return self._states[-1][1]

    @case.setter
    def case(self, value):
        self.take(value)

    @property
    def changes(self):
        """How many changes have not been taken back."""
        return len(self._states) - 1

    def assign(self, ways):
        """Replace the folding by the one with these ways."""
        check_taken(self._rule, self.case, ways)
        self._states.append((ways, self.case))

    def take(self, case):
        """Replace the case by one of this length."""
        check_case(case)
        check_width(self._rule, case, self.ways)
        self._states.append((self.ways, case))

    def turn(self, hinge):
        """Turn a hinge."""
        after = taken_after(self._rule, self.case, self.ways, hinge)
        self._states.append((after, self.case))

    def go(self, *hinges):
        """Turn these hinges one after another, all of them or none; returns how many."""
        after = ways_at_end(self._rule, self.case, self.ways, hinges)
        self._states.append((after, self.case))
        return len(hinges)

    def go_to(self, ways):
        """Turn hinges until the folding has these ways; returns the hinges."""
        turning = turns(self._rule, self.case, self.ways, ways)
        if turning is None:
            raise ApartError(reach(self._rule, self.case, self.ways))
        self._states.append((ways, self.case))
        return turning

    def undo(self):
        """Take back the last change that has not been taken back."""
        if self.changes == 0:
            raise NothingError("there is no change to take back")
        self._states.pop()

    def trying(self):
        """An object for one with statement, whose block leaves no change."""
        return Trying(self)

    def look(self, *hinges):
        """The ways after these hinges have been turned one after another, without a change."""
        return ways_at_end(self._rule, self.case, self.ways, hinges)


class Trying:
    """Gives a hand back its folding, its case and its changes when the block of a with statement is left."""

    def __init__(self, hand):
        self._hand = hand
        self._kept = []

    def __enter__(self):
        # A copy, because undo in the block may take back changes from before it.
        self._kept = list(self._hand._states)

    def __exit__(self, kind, value, trace):
        hand = self._hand
        hand._states = self._kept


def ways_at_end(rule, c, ways, hinges):
    """The ways after these turns, each of which must be possible."""
    for hinge in hinges:
        ways = taken_after(rule, c, ways, hinge)
    return ways
