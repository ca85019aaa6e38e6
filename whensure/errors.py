"""The errors that the program raises."""


class WhensureError(ValueError):
    """The base of all errors of the program."""


class InvalidFrame(WhensureError):
    """A text is not that of a frame: the number of the first wrong line, and why."""

    def __init__(self, line, reason):
        super().__init__(f"line {line}: {reason}")
        self.line = line
        self.reason = reason


class InvalidText(WhensureError):
    """A text is not that of a letter, a view or a session."""


class UnknownItem(WhensureError):
    """A device, clock, link, source or kind does not exist, or not there."""


class InvalidShown(WhensureError):
    """What is shown has another number of clocks than the device."""


class InvalidRecord(WhensureError):
    """A record cannot be put."""


class NotKept(WhensureError):
    """An event is not kept, or not in the view."""


class TooManyPins(WhensureError):
    """As many events are pinned as can be."""


class NotPinned(WhensureError):
    """An event is not pinned."""


class TooManyUnderWay(WhensureError):
    """Too many words are under way by a link."""


class InvalidPromise(WhensureError):
    """A promise cannot be made."""


class NotForThisDevice(WhensureError):
    """A letter is for another device."""


class CannotBeHeard(WhensureError):
    """A letter cannot be heard."""


class NoGreatestTime(WhensureError):
    """There is no greatest time to commit with."""


class BeginAnewFirst(WhensureError):
    """The watch owes a beginning."""


class NothingPossible(WhensureError):
    """No choice is possible."""


class UnknownCommit(WhensureError):
    """An event is no known commit."""


class InvalidPlan(WhensureError):
    """A plan is not one that can be asked about."""


class NotPossible(WhensureError):
    """Something is not possible in a trial."""
