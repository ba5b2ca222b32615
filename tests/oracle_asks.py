"""What asks, company and notes tell of a plain book, reckoned by the document's own words."""

import re

from oracle import PlainBook, hangs_by_words, holds_by_words

# Questions of asks.


def places(plain):
    return sorted(plain.now["place"])


def journeys(plain):
    return sorted(plain.now["journey"])


def clock(plain, name):
    plain.ask_place(name)
    return plain.now["place"][name]


def ends(plain, name):
    plain.ask_journey(name)
    return plain.now["journey"][name][:2]


def legs(plain, name):
    plain.ask_journey(name)
    return list(plain.now["journey"][name][2])


def rides_of(plain, name):
    return [plain.goes(run) for run in legs(plain, name)]


def fault(plain, name):
    return plain.fault(legs(plain, name))


def stands(plain, name):
    plain.ask_journey(name)
    return [ride[0] for ride in plain.stands(name)]


def spares(plain, name):
    plain.ask_journey(name)
    rides, spans, found = plain.stands(name), plain.spans(), []
    for ride, after in zip(rides, rides[1:]):
        found.append(after[3] - ride[4] - spans[ride[2]])
        late = ride[:4] + (ride[4] + found[-1],)
        assert hangs_by_words(late, after, spans)
        assert not hangs_by_words(late[:4] + (late[4] + 1,), after, spans)
    return found + [None] if rides else []


def behind(plain, name, now):
    plain.ask_journey(name)
    return [ride[0] for ride in plain.stands(name) if ride[3] <= now]


def shows(plain, place, moment):
    day, minute = 0, moment + plain.now["place"][place][0]
    while minute < 0:
        day, minute = day - 1, minute + 1440
    while minute > 1439:
        day, minute = day + 1, minute - 1440
    return day, minute


def times(plain, name):
    return [
        ride and (shows(plain, ride[1], ride[3]), shows(plain, ride[2], ride[4]))
        for ride in rides_of(plain, name)]


def anew(plain, name, now):
    runs, old = plain.mended(name, now), plain.now["journey"][name][2]
    if runs is None:
        return None
    return [run for run in runs if run not in old], [run for run in old if run not in runs]


def paper_fits(plain, name, now, paper):
    """Whether barred may tell this paper, or None."""
    if paper is None or plain.mended(name, now) is not None:
        return paper is None and plain.mended(name, now) is not None
    stay, start, since = plain.goes_on(name, now)
    goal = plain.now["journey"][name][1]
    pairs = type(paper) is list and all(type(pair) is tuple and len(pair) == 2 for pair in paper)
    return pairs and holds_by_words(plain.rides_for(name), plain.spans(), start, goal, since, paper)


def beds_anew(plain, name):
    return sorted(set(plain.wanted(name)) - set(plain.beds(name)))


def beds_idle(plain, name):
    return sorted(set(plain.beds(name)) - set(plain.wanted(name)))


# Questions of company.

def common(plain, one, other):
    plain.ask_journey(one, other)
    return [run for run in legs(plain, one) if run in legs(plain, other)]


def stretches(plain, one, other):
    first, second, found = legs(plain, one), legs(plain, other), []
    for at, run in enumerate(first):
        if run in second:
            before = second.index(run) - 1
            if at > 0 and before >= 0 and first[at - 1] == second[before]:
                found[-1].append(run)
            else:
                found.append([run])
    return found


def waits(plain, name):
    plain.ask_journey(name)
    rides = plain.stands(name)
    return [(ride[2], ride[4], after[3]) for ride, after in zip(rides, rides[1:])]


def meetings(plain, one, other):
    plain.ask_journey(one, other)
    found = []
    for place, coming, leaving in waits(plain, one):
        for there, coming_there, leaving_there in waits(plain, other):
            ends_of_both = (coming, leaving, coming_there, leaving_there)
            both = [at for at in ends_of_both if coming <= at <= leaving and coming_there <= at <= leaving_there]
            if place == there and both:
                found.append((place, min(both), max(both)))
    return sorted(found)


# Rows.

def book_rows(plain):
    now = plain.now
    rows = ["place %s %d %d" % ((name,) + now["place"][name]) for name in sorted(now["place"])]
    rows += ["run %s %s %d %d %d" % row for row in now["run"]]
    rows += ["news %d %d %s %d" % row for row in sorted(now["news"])]
    for name in sorted(now["journey"]):
        start, goal, runs = now["journey"][name]
        rows.append("journey %s %s %s" % (name, start, goal) + "".join(" %d" % run for run in runs))
    rows += ["share %s %s %d" % row for row in sorted(tuple(sorted(both)) + (run,) for both, run in now["share"])]
    return rows + ["bed %s %s %d" % row for row in sorted(now["bed"])]


NAME = "([a-z0-9]{1,12})"
NUMBER = "(0|-?[1-9][0-9]{0,59})"
FORMS = {
    "place": (NAME, NUMBER, NUMBER),
    "run": (NAME, NAME, NUMBER, NUMBER, NUMBER),
    "news": (NUMBER, NUMBER, "(slip|gone|on)", NUMBER),
    "journey": (NAME, NAME, NAME + "((?: " + NUMBER + ")*)"),
    "share": (NAME, NAME, NUMBER),
    "bed": (NAME, NAME, NUMBER),
}


def put(now, kind, words):
    """Puts what a row tells into a plain book's state."""
    if kind == "place":
        now["place"][words[0]] = (int(words[1]), int(words[2]))
    if kind == "run":
        now["run"].append((words[0], words[1], int(words[2]), int(words[3]), int(words[4])))
    if kind == "news":
        now["news"].append((int(words[0]), int(words[1]), words[2], int(words[3])))
    if kind == "journey":
        now["journey"][words[0]] = (words[1], words[2], tuple(int(word) for word in words[3].split()))
    if kind == "share":
        now["share"].append(({words[0], words[1]}, int(words[2])))
    if kind == "bed":
        now["bed"].append((words[0], words[1], int(words[2])))


def leads_so(now, start, goal, runs):
    if not all(0 <= run < len(now["run"]) for run in runs):
        return False
    places = [start] + [place for run in runs for place in now["run"][run][:2]] + [goal]
    return all(places[at] == places[at + 1] for at in range(0, len(places), 2))


def is_a_book(now):
    """Whether a state is one of a book, by all of [11] to [15] but the faults of journeys."""
    place, run, news, journey, share, bed = (
        now[kind] for kind in ("place", "run", "news", "journey", "share", "bed"))
    taken = [leg for start, goal, legs in journey.values() for leg in legs]
    return all((
        len(place) <= 12 and len(run) <= 40 and len(journey) <= 12,
        all(-900 <= ahead <= 900 and 0 <= span <= 1000 for ahead, span in place.values()),
        all(start in place and goal in place and start != goal for start, goal, *rest in run),
        all(-40000 <= row[2] < row[3] <= 40000 and row[4] >= 1 for row in run),
        all(0 <= row[0] < len(run) and 0 <= row[3] <= (20000 if row[2] == "slip" else 0) for row in news),
        len({row[:2] for row in news}) == len(news),
        all(start in place and goal in place for start, goal, legs in journey.values()),
        all(leads_so(now, *row) and len(set(row[2])) == len(row[2]) for row in journey.values()),
        all(taken.count(leg) <= run[leg][4] for leg in taken if 0 <= leg < len(run)),
        all(len(both) == 2 and both <= set(journey) and share.count((both, leg)) == 1 for both, leg in share),
        all(leg in journey[name][2] for both, leg in share for name in both if name in journey),
        all(name in journey and there in place for name, there, day in bed) and len(set(bed)) == len(bed),
    ))


def plain_of(rows):
    """The plain book that has these very rows, or None where no book has."""
    plain = PlainBook()
    for row in rows:
        kind = row.split(" ")[0]
        found = kind in FORMS and re.fullmatch(" ".join((kind,) + FORMS[kind]), row)
        if not found:
            return None
        put(plain.now, kind, found.groups())
    return plain if is_a_book(plain.now) and book_rows(plain) == rows else None


def bad_row(rows):
    """The first row together with which the rows so far are not those of a book, or None."""
    for at in range(len(rows)):
        if plain_of(rows[:at + 1]) is None:
            return at
    return None
