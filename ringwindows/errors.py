"""The errors of the package. Each has the values that it was made from as attributes."""


class RingError(ValueError):
    """The base of the errors about values and states."""


class TooMany(RingError):
    """There are more results than the bound."""

    def __init__(self, bound):
        self.bound = bound


class NotDivisible(RingError):
    """The number, a total, is not divisible by the number of parts."""

    def __init__(self, number):
        self.number = number


class NotAlike(RingError):
    """The filling with this index has another number of places than the first one."""

    def __init__(self, index):
        self.index = index


class OutOfRange(RingError):
    """A result is greater than the limit."""


class BadRing(RingError):
    """The value is not a number of places."""

    def __init__(self, value):
        self.value = value


class BadRules(RingError):
    """A value is not rules, for the reason that the error tells as rules_error does."""

    def __init__(self, error):
        self.error = error


class Never(RingError):
    """No filling fits the rules."""


class Busy(RingError):
    """A watch of the desk runs."""


class TooManyEdits(RingError):
    """No more edits can stand."""


class BadUnits(RingError):
    """The value is not a number of units to move."""

    def __init__(self, value):
        self.value = value


class TooFew(RingError):
    """A count would be less than 0."""


class Broken(RingError):
    """The rule with this index would not be fitted."""

    def __init__(self, index):
        self.index = index


class BadFilling(RingError):
    """The value is not a filling for the ring, or a count of it is too great."""

    def __init__(self, value):
        self.value = value


class BadRule(RingError):
    """The value is not a rule for the ring."""

    def __init__(self, value):
        self.value = value


class TooManyRules(RingError):
    """There can be no further rule."""


class BadSize(RingError):
    """The value is not the size of a window."""

    def __init__(self, value):
        self.value = value


class NothingToUndo(RingError):
    """No edit stands."""


class BadEdits(RingError):
    """A value is not a list or tuple of edits, or it is too long."""


class BadEdit(RingError):
    """The item with this index is not an edit."""

    def __init__(self, index):
        self.index = index


class Rejected(RingError):
    """The edit with this index raised an error."""

    def __init__(self, index):
        self.index = index


class BadNote(RingError):
    """The value is not a text that can be noted."""

    def __init__(self, value):
        self.value = value


class BadText(RingError):
    """The word with this index is wrong; None if there are no words, because a value is not a text."""

    def __init__(self, index):
        self.index = index


class NoPlace(LookupError):
    """The value is not a place of the ring."""

    def __init__(self, value):
        self.value = value


class NoTotal(LookupError):
    """The value is not a possible total, or it is too great."""

    def __init__(self, value):
        self.value = value


class NoRule(LookupError):
    """The value is not the index of a rule."""

    def __init__(self, value):
        self.value = value


class NoVersion(LookupError):
    """The value is not a version of the desk."""

    def __init__(self, value):
        self.value = value
