"""The errors of the package, one class for each kind of failure."""


class BoxError(ValueError):
    """The base of all errors about values that do not fit."""


class TooManySwitches(BoxError):
    """A box would have more switches than the bound."""

    def __init__(self, bound):
        self.bound = bound


class BadBox(BoxError):
    """A value is not a box; the error is what box_error returns for it."""

    def __init__(self, error):
        self.error = error


class NoCard(BoxError):
    """The value is not a card of this number of switches."""

    def __init__(self, value):
        self.value = value


class Present(BoxError):
    """The card to be added is in the box."""

    def __init__(self, value):
        self.value = value


class TooManyEdits(BoxError):
    """No further edit may stand."""


class NothingToUndo(BoxError):
    """No edit stands."""


class BadEdits(BoxError):
    """A batch is not a list or tuple of at most so many items."""


class BadEdit(BoxError):
    """The item of a batch with this index is not an edit."""

    def __init__(self, index):
        self.index = index


class Rejected(BoxError):
    """The edit of a batch with this index raised an error."""

    def __init__(self, index):
        self.index = index


class Rough(BoxError):
    """A box is not smooth; the set of switches is shown and not solid."""

    def __init__(self, switches):
        self.switches = switches


class BadText(BoxError):
    """The word with this index makes a text wrong; None if it is no text."""

    def __init__(self, index):
        self.index = index


class Absent(LookupError):
    """The value is not a card in the box."""

    def __init__(self, value):
        self.value = value


class NoSwitch(LookupError):
    """The value is not a switch of the box."""

    def __init__(self, value):
        self.value = value


class NoVersion(LookupError):
    """The value is not a version or an edit that stands."""

    def __init__(self, value):
        self.value = value
