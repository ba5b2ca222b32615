"""Two journeys beside one another: the runs that both have, and the places where both wait."""

from wayhold.asks import legs, standing_rides
from wayhold.rides import waits


def common(book, one, other):
    """The runs that both journeys have, in the order of the first one's legs."""
    first = legs(book, one)
    second = legs(book, other)
    return [run for run in first if run in second]


def stretches(book, one, other):
    """The common runs, parted into lists of runs that stand one behind the other in both journeys."""
    first = steps(legs(book, one))
    second = steps(legs(book, other))
    found = []
    for run in common(book, one, other):
        step = (found[-1][-1], run) if found else None
        if step in first and step in second:
            found[-1].append(run)
        else:
            found.append([run])
    return found


def steps(runs):
    """Pairs of each run and the next one."""
    return list(zip(runs, runs[1:]))


def meetings(book, one, other):
    """Tuples (place, first moment, last moment) of the waits that both journeys have in common, in order."""
    first = waits(standing_rides(book, one))
    second = waits(standing_rides(book, other))
    found = []
    for place, coming, leaving in first:
        for other_place, other_coming, other_leaving in second:
            since = max(coming, other_coming)
            until = min(leaving, other_leaving)
            if place == other_place and since <= until:
                found.append((place, since, until))
    return sorted(found)
