"""The book: places, runs, news of runs, journeys, beds and shared runs, by deeds that can be taken back."""

from wayhold.clocks import nights
from wayhold.errors import (
    Astray, BadClock, BadName, BadNews, BadSeats, BadTimes, Broken, Full, NoBed, NoJourney, NoLeg, NoPlace, NoRun,
    NoShare, NoWay, Taken, Twice,
)
from wayhold.ledger import Ledger
from wayhold.plans import least_change
from wayhold.rides import COMES, GOAL, first_fault, later, ridden, standing, waits

SIGNS = "abcdefghijklmnopqrstuvwxyz0123456789"
LONGEST_NAME = 12
MOST_PLACES = 12
MOST_RUNS = 40
MOST_JOURNEYS = 12
FARTHEST_AHEAD = 900
LONGEST_SPAN = 1000
FARTHEST_MOMENT = 40000
# The words of news, each with the greatest number that it may have.
WORDS = {"slip": 20000, "gone": 0, "on": 0}


def good_name(name):
    """Whether a name has 1 to 12 small letters and figures."""
    return 1 <= len(name) <= LONGEST_NAME and all([sign in SIGNS for sign in name])


def leads(start, goal, hops):
    """Whether pairs of places, one behind the other, lead from the start to the goal."""
    at = start
    for begins, ends in hops:
        if begins != at:
            return False
        at = ends
    return at == goal


def share_key(one, other, run):
    """A share by its two names in order, so that it is one share in either order."""
    return (min(one, other), max(one, other), run)


class Book:
    """A book, empty at first. Its tables:

    "place": name to (ahead, span). "run": number to (start, goal, leaves, comes, seats).
    ("news", run): stamp to (word, many). "journey": name to (start, goal, tuple of runs).
    "share": (lesser name, greater name, run) to True. ("bed", name): (place, day) to True.
    """

    def __init__(self):
        self.ledger = Ledger()

    def place(self, name, ahead, span):
        """A place with its clock and what a change takes there."""
        places = self.ledger.table("place")
        if not good_name(name):
            raise BadName("a name has 1 to 12 small letters and figures")
        if name in places:
            raise Taken("a place is called so")
        if not (-FARTHEST_AHEAD <= ahead <= FARTHEST_AHEAD and 0 <= span <= LONGEST_SPAN):
            raise BadClock("a clock is ahead by -900 to 900 minutes, a span has 0 to 1000")
        if len(places) >= MOST_PLACES:
            raise Full("no more places fit into a book")
        self.ledger.enter(("place", name, ahead, span), [("place", name, (ahead, span))])

    def run(self, start, goal, leaves, comes, seats):
        """A run as it is told at first; its number."""
        self.need_place(start)
        self.need_place(goal)
        if start == goal:
            raise Astray("a run has unlike start and goal")
        if not -FARTHEST_MOMENT <= leaves < comes <= FARTHEST_MOMENT:
            raise BadTimes("a run leaves and comes later, both from -40000 to 40000")
        if seats < 1:
            raise BadSeats("a run has one seat or more")
        number = self.many()
        if number >= MOST_RUNS:
            raise Full("no more runs fit into a book")
        told = (start, goal, leaves, comes, seats)
        self.ledger.enter(("run", start, goal, leaves, comes, seats), [("run", number, told)])
        return number

    def news(self, run, stamp, word, many):
        """News of a run."""
        self.need_run(run)
        if not 0 <= many <= WORDS.get(word, -1):
            raise BadNews("news is slip with 0 to 20000, gone with 0, or on with 0")
        if stamp in self.ledger.table(("news", run)):
            raise Twice("news of this run and stamp stands")
        self.ledger.enter(("news", run, stamp, word, many), [(("news", run), stamp, (word, many))])

    def journey(self, name, start, goal, runs):
        """A journey by these runs, its legs."""
        self.need_new_way(name, start, goal, runs)
        self.need_whole(runs)
        self.enter_journey(name, start, goal, runs)

    def turn(self, name, runs):
        """Other legs for a journey."""
        start, goal, legs = self.kept_journey(name)
        self.need_way(start, goal, runs)
        self.need_whole(runs)
        self.need_seats(runs, legs)
        self.ledger.enter(("turn", name, tuple(runs)), self.changes_to_legs(name, runs))

    def drop(self, name):
        """Gives a journey up, and with it its beds and shares."""
        beds = [(("bed", name), bed, None) for bed in self.beds(name)]
        shares = self.changes_to_shares(name, [])
        self.ledger.enter(("drop", name), [("journey", name, None)] + beds + shares)

    def share(self, one, other, run):
        """Lets two journeys share a run that both have."""
        legs = self.kept_journey(one)[2]
        other_legs = self.kept_journey(other)[2]
        self.need_run(run)
        if one == other or run not in legs or run not in other_legs:
            raise NoLeg("the run is not one of two journeys so called")
        key = share_key(one, other, run)
        if key in self.ledger.table("share"):
            raise Twice("the two share this run")
        self.ledger.enter(("share", one, other, run), [("share", key, True)])

    def unshare(self, one, other, run):
        """Ends a share."""
        key = share_key(one, other, run)
        if key not in self.ledger.table("share"):
            raise NoShare("the two don't share this run")
        self.ledger.enter(("unshare", one, other, run), [("share", key, None)])

    def bed(self, name, place, day):
        """Asks a bed for a journey."""
        self.kept_journey(name)
        self.need_place(place)
        if (place, day) in self.ledger.table(("bed", name)):
            raise Twice("this bed is asked")
        self.ledger.enter(("bed", name, place, day), [(("bed", name), (place, day), True)])

    def unbed(self, name, place, day):
        """Asks a bed no longer."""
        self.kept_journey(name)
        if (place, day) not in self.ledger.table(("bed", name)):
            raise NoBed("no such bed is asked")
        self.ledger.enter(("unbed", name, place, day), [(("bed", name), (place, day), None)])

    def settle(self, name):
        """Asks just the wanted beds."""
        wanted = self.wanted(name)
        idle = [(("bed", name), bed, None) for bed in self.beds(name) if bed not in wanted]
        self.ledger.enter(("settle", name), idle + [(("bed", name), bed, True) for bed in wanted])

    def mend(self, name, now):
        """Makes the least change at a moment the legs of a journey; their list."""
        runs = self.mended(name, now)
        if runs is None:
            raise NoWay("nothing leads to the journey's goal")
        self.ledger.enter(("mend", name, now), self.changes_to_legs(name, runs))
        return runs

    def undo(self):
        """Takes the last deed back; the deed."""
        return self.ledger.take_back()

    def redo(self):
        """Does the deed again that was taken back last; the deed."""
        return self.ledger.do_again()

    def many(self):
        """How many runs there are."""
        return len(self.ledger.table("run"))

    def told(self, run):
        """(start, goal, leaves, comes, seats) of a run as told at first."""
        self.need_run(run)
        return self.ledger.table("run")[run]

    def goes(self, run):
        """The ride that a run now is, or None where it is gone."""
        return self.ride_by(run, self.reports(run))

    def reports(self, run):
        """The news of a run, tuples (stamp, word, many), in order."""
        self.need_run(run)
        news = self.ledger.table(("news", run))
        return sorted([(stamp, word, many) for stamp, (word, many) in news.items()])

    def known(self, run, stamp):
        """The ride that a run was known to be at a stamp, or None where it was gone."""
        return self.ride_by(run, [report for report in self.reports(run) if report[0] <= stamp])

    def free(self, run):
        """How many seats of a run nobody has."""
        seats = self.told(run)[4]
        return seats - len([True for start, goal, legs in self.ledger.table("journey").values() if run in legs])

    def spans(self):
        """What a change takes at each place."""
        return {name: span for name, (ahead, span) in self.ledger.table("place").items()}

    def shared(self, name):
        """Pairs (other journey, run) of a journey's shares, in order."""
        self.kept_journey(name)
        shares = self.ledger.table("share")
        lesser = [(one, run) for one, other, run in shares if other == name]
        greater = [(other, run) for one, other, run in shares if one == name]
        return sorted(lesser + greater)

    def beds(self, name):
        """The beds that are asked for a journey, in order."""
        self.kept_journey(name)
        return sorted(self.ledger.table(("bed", name)))

    def wanted(self, name):
        """The beds for all nights that are waited between legs of a journey that stand, in order."""
        legs = self.kept_journey(name)[2]
        found = []
        for place, coming, leaving in waits(standing(self.rides_now(legs), self.spans())):
            ahead = self.kept_place(place)[0]
            found.extend([(place, day) for day in nights(coming, leaving, ahead)])
        return sorted(found)

    def mended(self, name, now):
        """The least change of a journey at a moment, a list of runs, or None where nothing leads there."""
        start, goal, legs = self.kept_journey(name)
        if first_fault(self.rides_now(legs), self.spans()) is None:
            return list(legs)
        stay, begins, since = self.goes_on(name, now)
        kept = list(legs[stay:])
        with_any = [run for other, run in self.shared(name)]
        shared = [run for run in kept if run in with_any]
        more = least_change(self.rides_open_to(name), self.spans(), begins, goal, since, kept, shared)
        if more is None:
            return None
        return list(legs[:stay]) + more

    def log(self):
        """The deeds that count, the first one first."""
        return [deed for deed, steps in self.ledger.done]

    def twin(self):
        """A book of its own that is as this one is."""
        other = Book()
        other.ledger = self.ledger.copied()
        return other

    def need_place(self, name):
        """Refuses a name unless a place bears it."""
        if name not in self.ledger.table("place"):
            raise NoPlace("no place is called so")

    def need_run(self, run):
        """Refuses a number unless a run has it."""
        if run not in self.ledger.table("run"):
            raise NoRun("no run has this number")

    def need_new_way(self, name, start, goal, runs):
        """Refuses a new journey unless its name is free and the places of its runs lead so."""
        if not good_name(name):
            raise BadName("a name has 1 to 12 small letters and figures")
        if name in self.ledger.table("journey"):
            raise Taken("a journey is called so")
        self.need_place(start)
        self.need_place(goal)
        self.need_way(start, goal, runs)

    def need_way(self, start, goal, runs):
        """Refuses runs unless their places lead from the start to the goal."""
        # A number that no run has is refused by told, ahead of all else.
        hops = [self.told(run)[:2] for run in runs]
        if not leads(start, goal, hops):
            raise Astray("the runs don't lead from the start to the goal")

    def need_whole(self, runs):
        """Refuses runs that have a fault as they go now."""
        fault = first_fault(self.rides_now(runs), self.spans())
        if fault is not None:
            raise Broken(fault[0], fault[1])

    def need_seats(self, runs, own):
        """Refuses runs unless each has a free seat, or is among a journey's own."""
        for run in runs:
            if run not in own and self.free(run) < 1:
                raise Full("a run has no free seat")

    def enter_journey(self, name, start, goal, runs):
        """Enters a journey, where there is room for it."""
        self.need_seats(runs, [])
        if len(self.ledger.table("journey")) >= MOST_JOURNEYS:
            raise Full("no more journeys fit into a book")
        legs = tuple(runs)
        self.ledger.enter(("journey", name, start, goal, legs), [("journey", name, (start, goal, legs))])

    def journey_as_read(self, name, start, goal, runs):
        """A journey out of rows: news may have brought it a fault since it was booked, so none is asked."""
        self.need_new_way(name, start, goal, runs)
        # A whole journey has no run twice by itself: a run leaves ahead of its own coming.
        if len(set(runs)) < len(runs):
            raise Twice("a run stands twice in the journey")
        self.enter_journey(name, start, goal, runs)

    def kept_place(self, name):
        """(ahead, span) of a place."""
        self.need_place(name)
        return self.ledger.table("place")[name]

    def kept_journey(self, name):
        """(start, goal, tuple of runs) of a journey."""
        journeys = self.ledger.table("journey")
        if name not in journeys:
            raise NoJourney("no journey is called so")
        return journeys[name]

    def changes_to_legs(self, name, runs):
        """The changes that give a journey these legs, and end the shares of runs that it loses by that."""
        start, goal, legs = self.kept_journey(name)
        return [("journey", name, (start, goal, tuple(runs)))] + self.changes_to_shares(name, runs)

    def changes_to_shares(self, name, runs):
        """The changes that end all shares of a journey but those of these runs."""
        return [("share", share_key(name, other, run), None) for other, run in self.shared(name) if run not in runs]

    def ride_by(self, run, reports):
        """The ride that a run is by reports in order, of which the last one counts."""
        start, goal, leaves, comes, seats = self.told(run)
        ride = (run, start, goal, leaves, comes)
        if not reports:
            return ride
        stamp, word, many = reports[-1]
        if word == "gone":
            return None
        return later(ride, many)

    def rides_now(self, runs):
        """The rides that runs now are, None for one that is gone."""
        return [self.goes(run) for run in runs]

    def goes_on(self, name, now):
        """Where the least change of a journey begins: (how many legs stay, place, moment)."""
        start, goal, legs = self.kept_journey(name)
        rides = self.rides_now(legs)
        spans = self.spans()
        stay = ridden(rides, spans, now)
        if stay == 0:
            return (0, start, now + 1)
        last = rides[stay - 1]
        return (stay, last[GOAL], max(now + 1, last[COMES] + spans[last[GOAL]]))

    def rides_open_to(self, name):
        """The rides of all runs that are not gone and have a free seat or are the journey's own."""
        legs = self.kept_journey(name)[2]
        rides = self.rides_now([run for run in range(self.many()) if run in legs or self.free(run) > 0])
        return [ride for ride in rides if ride is not None]
