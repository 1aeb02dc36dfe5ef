"""The errors of the program. Each one keeps in `value` what was wrong."""


class CutError(ValueError):
    """What all errors of the program have in common."""

    def __init__(self, value):
        self.value = value


class InvalidName(CutError):
    """A name that is not one to eight letters from a to z."""


class DoubleName(CutError):
    """A name that stood before."""


class InvalidStep(CutError):
    """A tuple of a table whose next state is none."""


class InvalidState(CutError):
    """A state that is none, or that has not as many tuples as there are calls."""


class UnknownCall(CutError):
    """A name that is no call of the service."""


class UnlikeCalls(CutError):
    """Calls that are not those that were asked for."""


class EmptyBatch(CutError):
    """A batch without a call."""


class InvalidLength(CutError):
    """A length that is less than 1."""


class NothingToUndo(CutError):
    """Nothing is there that could be taken back."""


class Unreadable(CutError):
    """A text that nothing has."""
