"""Clocks of places: moments, days, and the nights between two moments."""

DAY = 1440


def local(moment, ahead):
    """The pair (day, minute) that a clock so far ahead shows at a moment."""
    return divmod(moment + ahead, DAY)


def moment_of(day, minute, ahead):
    """The moment at which a clock so far ahead shows this day and minute."""
    return day * DAY + minute - ahead


def nights(coming, leaving, ahead):
    """The days whose end lies behind the coming and no later than the leaving."""
    # A day ends as the next one begins: the day of the coming still ends behind it,
    # and the day of the leaving has not ended yet, even at its first minute.
    return list(range(local(coming, ahead)[0], local(leaving, ahead)[0]))
