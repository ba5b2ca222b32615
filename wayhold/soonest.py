"""The soonest moments of places, and papers that no rides lead to a goal."""

from wayhold.rides import LEAVES


def soonest(rides, spans, start, since):
    """Pairs (place, soonest moment) of all places that rides lead to, the start among them, in order of places."""
    ready = {start: since}
    # A ride comes later than it leaves: by order of leaving, all that leads to a ride is known when its turn comes.
    for number, begins, ends, leaves, comes in sorted(rides, key=lambda ride: ride[LEAVES]):
        if ready_by(ready, begins, leaves):
            moment = comes + spans[ends]
            if not ready_by(ready, ends, moment):
                ready[ends] = moment
    return sorted(ready.items())


def no_way(rides, spans, start, goal, since):
    """A paper that no rides lead to the goal, or None where some do."""
    # The soonest moments are such a paper by themselves, as long as the goal is not among them.
    paper = soonest(rides, spans, start, since)
    if goal in [place for place, moment in paper]:
        return None
    return paper


def bars(rides, spans, start, goal, since, paper):
    """Whether the paper holds."""
    moments = {place: moment for place, moment in paper}
    if len(moments) < len(paper):
        return False
    if goal in moments or not ready_by(moments, start, since):
        return False
    for number, begins, ends, leaves, comes in rides:
        if ready_by(moments, begins, leaves) and not ready_by(moments, ends, comes + spans[ends]):
            return False
    return True


def ready_by(moments, place, moment):
    """Whether the place has a moment there, and one no later than this one."""
    return place in moments and moments[place] <= moment
