"""Questions of a book: its places and journeys, how the legs of a journey stand, and what would make it whole."""

from wayhold.clocks import local
from wayhold.rides import COMES, GOAL, LEAVES, NUMBER, START, first_fault, ridden, spare, standing
from wayhold.soonest import no_way


def places(book):
    """The names of all places, in order."""
    return sorted(book.ledger.table("place"))


def journeys(book):
    """The names of all journeys, in order."""
    return sorted(book.ledger.table("journey"))


def clock(book, name):
    """(minutes that a place's clock is ahead, what a change takes there)."""
    return book.kept_place(name)


def ends(book, name):
    """(start, goal) of a journey."""
    start, goal, runs = book.kept_journey(name)
    return (start, goal)


def legs(book, name):
    """The runs of a journey."""
    start, goal, runs = book.kept_journey(name)
    return list(runs)


def rides_of(book, name):
    """The rides that a journey's legs now are, None for one that is gone."""
    return book.rides_now(legs(book, name))


def fault(book, name):
    """The first fault of a journey, or None."""
    return first_fault(rides_of(book, name), book.spans())


def standing_rides(book, name):
    """The rides of a journey's legs that stand."""
    return standing(rides_of(book, name), book.spans())


def stands(book, name):
    """The runs of a journey's legs that stand."""
    return [ride[NUMBER] for ride in standing_rides(book, name)]


def spares(book, name):
    """The spares of a journey's legs that stand."""
    return spare(standing_rides(book, name), book.spans())


def behind(book, name, now):
    """The runs of a journey's legs behind a moment."""
    many = ridden(rides_of(book, name), book.spans(), now)
    return legs(book, name)[:many]


def times(book, name):
    """For each leg what the clocks show at its leaving and its coming, None for one that is gone."""
    return [shown(book, ride) for ride in rides_of(book, name)]


def shown(book, ride):
    """What the start's clock shows at a ride's leaving, and the goal's at its coming; None for None."""
    if ride is None:
        return None
    return (shown_at(book, ride[START], ride[LEAVES]), shown_at(book, ride[GOAL], ride[COMES]))


def shown_at(book, place, moment):
    """The pair (day, minute) that a place's clock shows at a moment."""
    ahead, span = clock(book, place)
    return local(moment, ahead)


def anew(book, name, now):
    """(runs of the least change that are no legs now, legs that are not in it), or None where nothing leads there."""
    runs = book.mended(name, now)
    if runs is None:
        return None
    old = legs(book, name)
    return ([run for run in runs if run not in old], [run for run in old if run not in runs])


def barred(book, name, now):
    """A paper that nothing leads to a journey's goal from a moment on, or None where something does."""
    if fault(book, name) is None:
        return None
    start, goal = ends(book, name)
    stay, begins, since = book.goes_on(name, now)
    return no_way(book.rides_open_to(name), book.spans(), begins, goal, since)


def beds_anew(book, name):
    """The beds that are wanted and not asked, in order."""
    asked = book.beds(name)
    return [bed for bed in book.wanted(name) if bed not in asked]


def beds_idle(book, name):
    """The beds that are asked and not wanted, in order."""
    wanted = book.wanted(name)
    return [bed for bed in book.beds(name) if bed not in wanted]
