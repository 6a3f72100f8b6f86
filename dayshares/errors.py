"""The refusals, each a class of its own, some of them in families."""


class ShareError(ValueError):
    """Any refusal."""


class NoteError(ShareError):
    """The family of what is wrong with notes."""


class NoNote(NoteError):
    """It is no note."""


class NoNotes(NoteError):
    """They are no notes."""


class Leans(NoteError):
    """Other notes lean on the one that should go: so many of them."""

    def __init__(self, many):
        NoteError.__init__(self, f"{many} lean on it")
        self.many = many


class PriceError(ShareError):
    """The family of what is wrong with prices."""


class NoKind(PriceError):
    """It is none of the kinds."""


class NoPrices(PriceError):
    """They are no prices."""


class DayError(ShareError):
    """The family of what is wrong with days."""


class NoMonths(DayError):
    """They are no months."""


class NoDay(DayError):
    """It is none of the days, or none of the months' numbers."""


class NoPence(ShareError):
    """It is no number of pence."""


class NoName(ShareError):
    """It is no name."""


class Missing(ShareError):
    """It isn't there."""


class Twice(ShareError):
    """It is there already."""


class NoDeed(ShareError):
    """No deed stands."""


class NoSheet(ShareError):
    """It is no sheet."""


class NoSteps(ShareError):
    """They are no steps."""


class NoWishes(ShareError):
    """They are no wishes."""


class NoLine(ShareError):
    """It is no line of the desk."""


class TooMany(ShareError):
    """It would be so many, where there may be so many at the most."""

    def __init__(self, many, most):
        ShareError.__init__(self, f"{many} where {most} are the most")
        self.many = many
        self.most = most


class NoText(ShareError):
    """It isn't written so: from the line of this number on, -1 where it is no text."""

    def __init__(self, at):
        ShareError.__init__(self, f"not so written at {at}")
        self.at = at
