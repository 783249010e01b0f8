"""The errors by which the program refuses what is handed in.

Each stands straight under ReachError, so that one of them is never caught by the name of another one.
"""


class ReachError(ValueError):
    """Whatever the program refuses."""


class NoPlan(ReachError):
    """What was handed in as a plan is none."""


class NoWeather(ReachError):
    """What was handed in as a weather is none."""


class NoCuts(ReachError):
    """What was handed in as cuts of a plan are none."""


class NoPlace(ReachError):
    """What was handed in as a place is none."""


class NoRoad(ReachError):
    """No road lies between the two places."""


class NoNumber(ReachError):
    """A number is none, or beyond its bounds."""


class NoMoment(ReachError):
    """A moment is none, or not one that may be asked about."""


class NoKey(ReachError):
    """What was handed in as a key is none."""


class NoNames(ReachError):
    """What was handed in as names of a book are none."""


class NoName(ReachError):
    """A name is none, or isn't known."""


class NoPages(ReachError):
    """What was handed in as pages of a house are none."""


class NoPage(ReachError):
    """A page is none, or isn't known."""


class NoQuestion(ReachError):
    """What was handed in as a question is none."""


class NoEntry(ReachError):
    """What was handed in as an entry is none."""


class NoAnswer(ReachError):
    """What was handed in as a house's answer is none."""


class NoDoor(ReachError):
    """The place is no door."""


class NoHouse(ReachError):
    """The place is no house."""


class NoAsk(ReachError):
    """There is no such ask."""


class NoLog(ReachError):
    """What was handed in as a log is none."""


class NoLine(ReachError):
    """What a desk was told is none of its lines."""


class TooMany(ReachError):
    """There would be many where there may be most."""

    def __init__(self, many, most):
        super().__init__(f"{many} are more than {most}")
        self.many = many
        self.most = most


class NoText(ReachError):
    """A text can't be read; row is the number of the row at fault, 0 for no row at all."""

    def __init__(self, row):
        super().__init__(f"no such text: row {row}")
        self.row = row
