"""The refusals: one class each, all straight under WayError."""


class WayError(ValueError):
    """Any refusal."""


class BadName(WayError):
    """A name is not 1 to 12 small letters and figures."""


class BadClock(WayError):
    """A place's clock or span is out of bounds."""


class BadTimes(WayError):
    """A run's leaving or coming is out of bounds, or the coming is not later."""


class BadSeats(WayError):
    """A run has less than one seat."""


class BadNews(WayError):
    """The word or the number of news is not one that can be told."""


class Taken(WayError):
    """The name is borne already."""


class NoPlace(WayError):
    """No place is called so."""


class NoRun(WayError):
    """No run has this number."""


class NoJourney(WayError):
    """No journey is called so."""


class NoLeg(WayError):
    """The run is not one of both journeys, or the two are the same one."""


class NoBed(WayError):
    """No such bed is asked."""


class NoShare(WayError):
    """The journeys don't share this run."""


class NoWay(WayError):
    """Nothing leads to the goal."""


class Twice(WayError):
    """The same stands already."""


class Astray(WayError):
    """The places don't lead from the start to the goal."""


class Full(WayError):
    """No seat is free, or no more of the kind fit into the book."""


class Broken(WayError):
    """A journey has a fault: at is its place among the legs, word is gone or missed."""

    def __init__(self, at, word):
        self.at = at
        self.word = word


class NoDeed(WayError):
    """There is no deed to take back or to do again."""


class BadText(WayError):
    """Rows are not those of a book: row is the first wrong one, counted from 0."""

    def __init__(self, row):
        self.row = row
