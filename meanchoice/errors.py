"""The refusals: each is made of a text, and stands right under MeanError."""


class MeanError(ValueError):
    """Any refusal of this package."""


class NoSheet(MeanError):
    """What was handed in is no sheet."""


class NoChoosing(MeanError):
    """What was handed in is no choosing, begun or whole, of its sheet."""


class NoWish(MeanError):
    """What was handed in is no wish for these ways."""


class NoShares(MeanError):
    """What was handed in are no shares of its sheet."""


class NoPlace(MeanError):
    """There is no such place, or it is not free for what was asked."""


class NoWay(MeanError):
    """The place has no such way."""


class NoWays(MeanError):
    """What was handed in are no ways of a sheet."""


class NoWeb(MeanError):
    """What was handed in is no web."""


class NoNumber(MeanError):
    """What was handed in is no number that stands for something here."""


class NoSides(MeanError):
    """What was handed in are no sides of its web."""


class NoOrder(MeanError):
    """What was handed in is no order, begun or whole, of its web."""


class NoBoard(MeanError):
    """What was handed in is no board."""


class NoSigns(MeanError):
    """What was handed in are no signs, begun or whole, for its board."""


class NoIns(MeanError):
    """What was handed in are no ins, begun or whole, of its web."""


class NoBook(MeanError):
    """What was handed in is no book."""


class NoDraws(MeanError):
    """What was handed in are no draws of its book."""


class TooMany(MeanError):
    """There is more of it than is dealt with."""


class NoText(MeanError):
    """The text is not written as a sheet is."""


class NoRow(MeanError):
    """The row is none that a desk knows."""
