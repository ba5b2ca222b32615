"""Rides, tuples (number, start, goal, leaves, comes), and how they hang on one another."""

# What stands where in a ride.
NUMBER = 0
START = 1
GOAL = 2
LEAVES = 3
COMES = 4


def later(ride, many):
    """The same ride, so many minutes later (below nought: earlier)."""
    number, start, goal, leaves, comes = ride
    return (number, start, goal, leaves + many, comes + many)


def spare_between(ride, after, spans):
    """How many minutes are left at the change between two rides; below nought where it is missed."""
    return after[LEAVES] - ride[COMES] - spans[ride[GOAL]]


def hangs(ride, after, spans):
    """Whether the ride after hangs on the first one."""
    return after[START] == ride[GOAL] and spare_between(ride, after, spans) >= 0


def first_fault(rides, spans):
    """The first fault as a pair (place in the list, word), or None."""
    for at, ride in enumerate(rides):
        if ride is None:
            return (at, "gone")
        if at > 0 and not hangs(rides[at - 1], ride, spans):
            return (at, "missed")
    return None


def standing(rides, spans):
    """A new list of the rides ahead of the first fault."""
    fault = first_fault(rides, spans)
    if fault is None:
        return list(rides)
    return list(rides[:fault[0]])


def ridden(rides, spans, now):
    """How many rides stand and leave no later than the moment."""
    return len([ride for ride in standing(rides, spans) if ride[LEAVES] <= now])


def spare(rides, spans):
    """By how many minutes each ride could come later, None for the last; each hangs on the one ahead."""
    if not rides:
        return []
    return [spare_between(ride, after, spans) for ride, after in zip(rides, rides[1:])] + [None]


def waits(rides):
    """For each ride but the last (its goal, its coming, the next one's leaving)."""
    return [(ride[GOAL], ride[COMES], after[LEAVES]) for ride, after in zip(rides, rides[1:])]
