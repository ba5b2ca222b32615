"""What the tests reckon by the document's own words, slowly: rows one by one, papers, and a plain book."""

import copy

from wayhold import errors


# Rides and rows of rides.

def hangs_by_words(ride, after, spans):
    return after[1] == ride[2] and after[3] >= ride[4] + spans[ride[2]]


def all_rows(rides, spans, start, since):
    """Each row with one ride or more that begins at the start, no earlier than the moment, wherever it leads."""
    rows = [[ride] for ride in rides if ride[1] == start and ride[3] >= since]
    at = 0
    while at < len(rows):
        rows += [rows[at] + [ride] for ride in rides if hangs_by_words(rows[at][-1], ride, spans)]
        at += 1
    return rows


def rows_to(rides, spans, start, goal, since):
    """Each row that leads to the goal, the one without rides among them where it does."""
    rows = [row for row in all_rows(rides, spans, start, since) if row[-1][2] == goal]
    return rows + ([[]] if start == goal else [])


def soonest_by_rows(rides, spans, start, since):
    least = {}
    for row in all_rows(rides, spans, start, since):
        place, comes = row[-1][2], row[-1][4]
        least[place] = min(least.get(place, comes), comes)
    found = {place: comes + spans[place] for place, comes in least.items()}
    found[start] = since
    return sorted(found.items())


def holds_by_words(rides, spans, start, goal, since, paper):
    places = [place for place, moment in paper]
    if len(set(places)) < len(places) or goal in places:
        return False
    if not any(place == start and moment <= since for place, moment in paper):
        return False
    for number, begins, ends, leaves, comes in rides:
        if any(place == begins and moment <= leaves for place, moment in paper):
            if not any(place == ends and moment <= comes + spans[ends] for place, moment in paper):
                return False
    return True


def measures(row, since, kept, shared):
    """The five measures of [10], each the less the better."""
    numbers = [ride[0] for ride in row]
    return (
        -len([number for number in numbers if number in shared]),
        len([number for number in numbers if number not in kept]),
        row[-1][4] if row else since,
        len(row),
        numbers,
    )


def least_by_rows(rides, spans, start, goal, since, kept, shared):
    """All rows, of which each measure by its turn leaves the best ones alone."""
    told = [measures(row, since, kept, shared) for row in rows_to(rides, spans, start, goal, since)]
    for at in range(5):
        best = min((row[at] for row in told), default=None)
        told = [row for row in told if row[at] == best]
    assert len(told) <= 1
    return told[0][4] if told else None


def least_by_reach(rides, spans, start, goal, since, kept, shared):
    """The least change of lists with too many rows to go through: first all measures that any row reaches,

    ride by ride from the last one on, and then, number by number, the first list with the best of them.
    """
    reach = {}
    for ride in sorted(rides, key=lambda one: -one[3]):
        one = (-1 if ride[0] in shared else 0, 0 if ride[0] in kept else 1)
        reached = {one + (ride[4], 1)} if ride[2] == goal else set()
        for after in rides:
            if hangs_by_words(ride, after, spans):
                reached |= {(a + one[0], b + one[1], c, d + 1) for a, b, c, d in reach[after]}
        reach[ride] = reached
    first = [ride for ride in rides if ride[1] == start and ride[3] >= since]
    ends = {end for ride in first for end in reach[ride]} | ({(0, 0, since, 0)} if start == goal else set())
    if not ends:
        return None
    left, numbers = min(ends), []
    while left[3] > 0:
        ride = min(ride for ride in first if left in reach[ride])
        numbers.append(ride[0])
        one = (-1 if ride[0] in shared else 0, 0 if ride[0] in kept else 1)
        left = (left[0] - one[0], left[1] - one[1], left[2], left[3] - 1)
        first = [after for after in rides if hangs_by_words(ride, after, spans)]
    return numbers


def nights_by_minutes(coming, leaving, ahead):
    return [(moment + ahead) // 1440 - 1 for moment in range(coming + 1, leaving + 1) if (moment + ahead) % 1440 == 0]


# A plain book: each deed works on a copy of all, and what was is kept whole.

class PlainBook:
    def __init__(self):
        self.now = {"place": {}, "run": [], "news": [], "journey": {}, "share": [], "bed": []}
        self.done, self.before, self.undone = [], [], []

    def do(self, deed):
        """What the deed answers; where it is refused, nothing has changed."""
        kept = copy.deepcopy(self.now)
        try:
            told = getattr(self, "do_" + deed[0])(*deed[1:])
        except errors.WayError:
            self.now = kept
            raise
        self.before.append(kept)
        self.done.append(tuple(tuple(one) if isinstance(one, list) else one for one in deed))
        self.undone = []
        return told

    def undo(self):
        if not self.done:
            raise errors.NoDeed()
        deed = self.done.pop()
        self.undone.append((deed, self.now))
        self.now = self.before.pop()
        return deed

    def redo(self):
        if not self.undone:
            raise errors.NoDeed()
        self.before.append(self.now)
        deed, self.now = self.undone.pop()
        self.done.append(deed)
        return deed

    # Refusals.

    def ask(self, holds, error, *fields):
        if not holds:
            raise error(*fields)

    def ask_name(self, name, taken):
        plain = all("a" <= sign <= "z" or "0" <= sign <= "9" for sign in name)
        self.ask(plain and name != "" and len(name) < 13, errors.BadName)
        self.ask(name not in taken, errors.Taken)

    def ask_place(self, *names):
        self.ask(all(name in self.now["place"] for name in names), errors.NoPlace)

    def ask_run(self, *runs):
        self.ask(all(0 <= run < len(self.now["run"]) for run in runs), errors.NoRun)

    def ask_journey(self, *names):
        self.ask(all(name in self.now["journey"] for name in names), errors.NoJourney)

    def ask_legs(self, name, start, goal, runs):
        self.ask_run(*runs)
        places = [start] + [place for run in runs for place in self.now["run"][run][:2]] + [goal]
        self.ask(all(places[at] == places[at + 1] for at in range(0, len(places), 2)), errors.Astray)
        fault = self.fault(runs)
        self.ask(fault is None, errors.Broken, *(fault or ()))
        for run in runs:
            others = [one for one in self.now["journey"] if one != name and run in self.now["journey"][one][2]]
            self.ask(len(others) < self.now["run"][run][4], errors.Full)

    # Deeds.

    def do_place(self, name, ahead, span):
        self.ask_name(name, self.now["place"])
        self.ask(ahead in range(-900, 901) and span in range(0, 1001), errors.BadClock)
        self.ask(len(self.now["place"]) < 12, errors.Full)
        self.now["place"][name] = (ahead, span)

    def do_run(self, start, goal, leaves, comes, seats):
        self.ask_place(start, goal)
        self.ask(start != goal, errors.Astray)
        let = range(-40000, 40001)
        self.ask(leaves in let and comes in let and leaves < comes, errors.BadTimes)
        self.ask(seats > 0, errors.BadSeats)
        self.ask(len(self.now["run"]) < 40, errors.Full)
        self.now["run"].append((start, goal, leaves, comes, seats))
        return len(self.now["run"]) - 1

    def do_news(self, run, stamp, word, many):
        self.ask_run(run)
        self.ask((word, many) in (("gone", 0), ("on", 0)) or (word == "slip" and 0 <= many <= 20000), errors.BadNews)
        self.ask(not any(row[:2] == (run, stamp) for row in self.now["news"]), errors.Twice)
        self.now["news"].append((run, stamp, word, many))

    def do_journey(self, name, start, goal, runs):
        self.ask_name(name, self.now["journey"])
        self.ask_place(start, goal)
        self.ask_legs(name, start, goal, runs)
        self.ask(len(self.now["journey"]) < 12, errors.Full)
        self.now["journey"][name] = (start, goal, tuple(runs))

    def do_turn(self, name, runs):
        self.ask_journey(name)
        start, goal, legs = self.now["journey"][name]
        self.ask_legs(name, start, goal, runs)
        self.set_legs(name, runs)

    def set_legs(self, name, runs):
        self.now["journey"][name] = self.now["journey"][name][:2] + (tuple(runs),)
        self.now["share"] = [row for row in self.now["share"] if name not in row[0] or row[1] in runs]

    def do_drop(self, name):
        self.ask_journey(name)
        del self.now["journey"][name]
        self.now["share"] = [row for row in self.now["share"] if name not in row[0]]
        self.now["bed"] = [row for row in self.now["bed"] if row[0] != name]

    def do_share(self, one, other, run):
        self.ask_journey(one, other)
        self.ask_run(run)
        both = all(run in self.now["journey"][name][2] for name in (one, other))
        self.ask(both and one != other, errors.NoLeg)
        self.ask(({one, other}, run) not in self.now["share"], errors.Twice)
        self.now["share"].append(({one, other}, run))

    def do_unshare(self, one, other, run):
        self.ask(({one, other}, run) in self.now["share"], errors.NoShare)
        self.now["share"].remove(({one, other}, run))

    def do_bed(self, name, place, day):
        self.ask_journey(name)
        self.ask_place(place)
        self.ask((name, place, day) not in self.now["bed"], errors.Twice)
        self.now["bed"].append((name, place, day))

    def do_unbed(self, name, place, day):
        self.ask_journey(name)
        self.ask((name, place, day) in self.now["bed"], errors.NoBed)
        self.now["bed"].remove((name, place, day))

    def do_settle(self, name):
        self.ask_journey(name)
        others = [row for row in self.now["bed"] if row[0] != name]
        self.now["bed"] = others + [(name, place, day) for place, day in self.wanted(name)]

    def do_mend(self, name, now):
        runs = self.mended(name, now)
        self.ask(runs is not None, errors.NoWay)
        self.set_legs(name, runs)
        return runs

    # Questions.

    def many(self):
        return len(self.now["run"])

    def told(self, run):
        self.ask_run(run)
        return self.now["run"][run]

    def reports(self, run):
        self.ask_run(run)
        return sorted(row[1:] for row in self.now["news"] if row[0] == run)

    def known(self, run, stamp):
        start, goal, leaves, comes, seats = self.told(run)
        counts = [row for row in self.reports(run) if stamp is None or row[0] <= stamp]
        word, many = counts[-1][1:] if counts else ("on", 0)
        return None if word == "gone" else (run, start, goal, leaves + many, comes + many)

    def goes(self, run):
        return self.known(run, None)

    def free(self, run):
        return self.told(run)[4] - sum(1 for row in self.now["journey"].values() if run in row[2])

    def spans(self):
        return {name: row[1] for name, row in self.now["place"].items()}

    def shared(self, name):
        self.ask_journey(name)
        return sorted((other, run) for both, run in self.now["share"] if name in both for other in both - {name})

    def beds(self, name):
        self.ask_journey(name)
        return sorted(row[1:] for row in self.now["bed"] if row[0] == name)

    def fault(self, runs):
        rides = [self.goes(run) for run in runs]
        for at, ride in enumerate(rides):
            if ride is None:
                return (at, "gone")
            if at > 0 and not hangs_by_words(rides[at - 1], ride, self.spans()):
                return (at, "missed")
        return None

    def stands(self, name):
        legs = self.now["journey"][name][2]
        fault = self.fault(legs)
        return [self.goes(run) for run in (legs[:fault[0]] if fault else legs)]

    def wanted(self, name):
        self.ask_journey(name)
        rides = self.stands(name)
        found = []
        for ride, after in zip(rides, rides[1:]):
            ahead = self.now["place"][ride[2]][0]
            found += [(ride[2], day) for day in nights_by_minutes(ride[4], after[3], ahead)]
        return sorted(found)

    def mended(self, name, now):
        self.ask_journey(name)
        start, goal, legs = self.now["journey"][name]
        if self.fault(legs) is None:
            return list(legs)
        stay, start, since = self.goes_on(name, now)
        kept = [run for run in legs if run not in stay]
        shared = [run for run in kept if run in [one for other, one in self.shared(name)]]
        # Rows one by one as long as there are few runs.
        least = least_by_rows if self.many() <= 12 else least_by_reach
        more = least(self.rides_for(name), self.spans(), start, goal, since, kept, shared)
        return None if more is None else stay + more

    def goes_on(self, name, now):
        """The runs that stay, the place and the moment from which [16] goes on."""
        stay = [ride for ride in self.stands(name) if ride[3] <= now]
        if not stay:
            return [], self.now["journey"][name][0], now + 1
        place = stay[-1][2]
        return [ride[0] for ride in stay], place, max(now + 1, stay[-1][4] + self.spans()[place])

    def rides_for(self, name):
        """The rides of [16]."""
        let = [run for run in range(self.many()) if self.free(run) > 0 or run in self.now["journey"][name][2]]
        return [self.goes(run) for run in let if self.goes(run) is not None]

    def log(self):
        return list(self.done)

    def to_redo(self):
        return [deed for deed, state in reversed(self.undone)]
