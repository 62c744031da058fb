"""The exceptions of the package."""


class WriteError(ValueError):
    """What all exceptions of the package are derived from."""


class NoView(WriteError):
    """An argument is no view, or one of another number of states."""


class NoTable(WriteError):
    """An argument is no table of the view."""


class NotSound(WriteError):
    """A table breaks one of the three rules."""


class NoParts(WriteError):
    """An argument is no partition of the view."""


class Alike(WriteError):
    """Two different states agree in both views."""


class TooLarge(WriteError):
    """A view has more states than the function takes."""


class NoWishes(WriteError):
    """An argument is no tuple of wishes."""


class NoPairs(WriteError):
    """Arguments are no pairs that fit."""


class NotIndependent(WriteError):
    """Two pairs are not independent."""


class NoState(WriteError):
    """An argument is no state."""


class NoValue(WriteError):
    """An argument is no value of the view."""


class NoStep(WriteError):
    """A state is not reached by one write, or an argument is no step."""


class NoViews(WriteError):
    """Arguments are no view objects that go together."""


class NoCell(WriteError):
    """An argument is no position of a view of the desk."""


class Refused(WriteError):
    """A write is refused."""


class Full(WriteError):
    """There are as many wishes already as there may be."""


class NothingDone(WriteError):
    """There is no change to take back."""


class NoText(WriteError):
    """A text is not that of a view and a table."""


class Clash(WriteError):
    """Nothing sound meets all demands; the field `reason` tells why."""

    def __init__(self, reason):
        self.reason = reason
