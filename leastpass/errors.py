"""The errors of the package; every other module raises only these."""


class LeastPassError(ValueError):
    """The base class of all errors of the package."""


class InvalidBoard(LeastPassError):
    """An argument is not a board; the reason is the result of check_board."""

    def __init__(self, reason=None):
        self.reason = reason


class InvalidSizes(LeastPassError):
    """An argument is not sizes; the reason is the result of check_sizes."""

    def __init__(self, reason=None):
        self.reason = reason


class InvalidPlan(LeastPassError):
    """An argument is not a plan; the reason is the result of check_plan."""

    def __init__(self, reason=None):
        self.reason = reason


class InvalidRound(LeastPassError):
    """An argument is not a round for the number of places."""


class InvalidCard(LeastPassError):
    """An argument is not one of the cards; the field is the argument."""

    def __init__(self, card=None):
        self.card = card


class InvalidPlace(LeastPassError):
    """An argument is not a place; the field is the argument."""

    def __init__(self, place=None):
        self.place = place


class InvalidCount(LeastPassError):
    """A number of places or a threshold is not a whole number in its range."""


class InvalidRepeats(LeastPassError):
    """A number of repetitions is not a whole number, 0 or more."""


class InvalidProfile(LeastPassError):
    """Lots and counts do not form a profile; the reason names the wrong one."""

    def __init__(self, reason=None):
        self.reason = reason


class InvalidPairs(LeastPassError):
    """An argument is not a list of distinct pairs of different places."""


class InvalidDeal(LeastPassError):
    """A list of owners does not fit the sizes."""


class IndexTooLarge(LeastPassError):
    """An index is not a whole number from 0 to count - 1."""

    def __init__(self, count=None):
        self.count = count


class ProblemTooLarge(LeastPassError):
    """A counting problem has more states than are allowed; they are the count."""

    def __init__(self, count=None):
        self.count = count


class NothingToUndo(LeastPassError):
    """A game has no step to take back."""
