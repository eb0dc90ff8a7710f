"""The errors that the program raises."""


class FoldError(ValueError):
    """The base of all errors of the program."""


class RuleError(FoldError):
    """A value is not a rule."""


class RodsError(FoldError):
    """The number of the rods, or the length of one, is wrong."""


class LockError(FoldError):
    """An option of a rule is wrong."""


class HingeError(FoldError):
    """A value is not a hinge, or not a tuple of hinges, of the rule."""


class WaysError(FoldError):
    """A value is not the ways of a folding of the rule."""


class RefusedError(FoldError):
    """The rule does not allow a folding."""


class CaseError(FoldError):
    """A value is not the length of a case."""


class WidthError(FoldError):
    """The case does not take a folding."""


class NothingError(FoldError):
    """There is no change to take back."""


class TextError(FoldError):
    """A value is not the text of a rule: place tells how far it could be one."""

    def __init__(self, place):
        super().__init__(f"not the text of a rule behind the first {place} characters")
        self.place = place


class ApartError(FoldError):
    """There is no turning to a folding: closed has the foldings that are reached."""

    def __init__(self, closed):
        super().__init__("there is no turning to this folding")
        self.closed = closed
