"""The errors of whichbroke, one for each kind of thing that is refused."""


class WorkError(ValueError):
    """Something that was handed in is refused."""


class BadWork(WorkError):
    """What was handed in is no work."""


class BadGiven(WorkError):
    """What was handed in are no inputs of the work."""


class BadLook(WorkError):
    """What was handed in is no look at the work."""


class BadSet(WorkError):
    """What was handed in is no set of parts of the work."""


class HasRoom(WorkError):
    """The set leaves room, so that no parts clash with it."""


class NoLine(WorkError):
    """What was handed in is no line of the work."""


class NoLook(WorkError):
    """What was handed in is no number of a look, or there is no look."""


class BadText(WorkError):
    """What was handed in is not what is written of a work."""
