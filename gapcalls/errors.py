"""The refusals: each stands right under CallError, none under another."""


def own_copy(things):
    """A list of the refusal's own, so that the maker may go on changing the one it handed in."""
    return list(things) if isinstance(things, list) else things


class CallError(ValueError):
    """What every refusal is."""


class NoRow(CallError):
    """The thing of this number in a list is no row of the town."""

    def __init__(self, number):
        self.number = number


class NoText(CallError):
    """The row of this number in a text is not written as it must be."""

    def __init__(self, number):
        self.number = number


class Clash(CallError):
    """The rows of these two numbers clash, first below second."""

    def __init__(self, first, second):
        self.first = first
        self.second = second


class Short(CallError):
    """There is no whole telling: for some asks, or some jobs, there are too few."""

    def __init__(self, side, some):
        self.side = side
        self.some = own_copy(some)


class OffTime(CallError):
    """No shifts bring the pairs in time: these links are a ring."""

    def __init__(self, links):
        self.links = own_copy(links)


class NoAsk(CallError):
    """An ask that is not known."""


class NoJob(CallError):
    """A job that is not known."""


class TooMany(CallError):
    """More tellings than the limit."""


class NoLine(CallError):
    """What the desk was told is none of its rows."""
