"""The least change: the best of all rows of rides that lead to a goal."""

from wayhold.rides import COMES, GOAL, LEAVES, NUMBER, START, hangs

# A row's worth is a tuple (shared rides below nought, rides not kept, coming, rides, list of numbers):
# by Python's own order the best row has the least worth.
NUMBERS = 4


def least_change(rides, spans, start, goal, since, kept, shared):
    """The list of numbers of the least change, or None where no row leads there."""
    worths = [
        worth
        for ride, worth in best_rows(rides, spans, goal, kept, shared)
        if ride[START] == start and ride[LEAVES] >= since
    ]
    if start == goal:
        worths.append(worth_of_none(since))
    if not worths:
        return None
    return min(worths)[NUMBERS]


def best_rows(rides, spans, goal, kept, shared):
    """Pairs of a ride and the worth of the best row that begins with it and leads to the goal, where there is one."""
    found = []
    # What hangs on a ride leaves later than it. And of two rows behind a ride the better one stays the better
    # with the ride ahead of both, so that the best one behind each is enough.
    for ride in sorted(rides, key=lambda one: one[LEAVES], reverse=True):
        behind = [worth for after, worth in found if hangs(ride, after, spans)]
        if ride[GOAL] == goal:
            behind.append(worth_of_none(ride[COMES]))
        if behind:
            found.append((ride, worth_with(ride[NUMBER], min(behind), kept, shared)))
    return found


def worth_of_none(comes):
    """The worth of the row without rides that comes at a moment."""
    return (0, 0, comes, 0, [])


def worth_with(number, worth, kept, shared):
    """The worth of a row with one more ride ahead of it."""
    less_shared, unkept, comes, many, numbers = worth
    if number in shared:
        less_shared -= 1
    if number not in kept:
        unkept += 1
    return (less_shared, unkept, comes, many + 1, [number] + numbers)
