"""Deeds drawn by chance, right and wrong ones, done in a book and in the plain one beside it."""

import random
import unittest

from cases import answer, deeds_to_come, seen
from oracle import PlainBook
from oracle_asks import paper_fits
from wayhold.asks import barred
from wayhold.book import Book

FAR = 10 ** 59 + 4321
NAMES = ("j0", "j1", "j2", "j3", "j4")
PLACES = ("a", "b", "c", "d")
KINDS = (
    ["place"] * 2 + ["run"] * 6 + ["news"] * 8 + ["journey"] * 8 + ["turn"] * 5 + ["drop"] * 2 + ["share"] * 6
    + ["unshare"] * 2 + ["bed"] * 4 + ["unbed"] * 3 + ["settle"] * 3 + ["mend"] * 6 + ["undo"] * 4 + ["redo"] * 4
)


class AnyDeeds:
    """Draws deeds that often fit the book, and sometimes don't."""

    def __init__(self, chance, plain, names=NAMES, places=PLACES):
        self.chance = chance
        self.plain = plain
        self.names = names
        self.places = places

    def rarely(self, other, usual):
        return other if self.chance.random() < 0.04 else usual

    def new_name(self):
        names = [name for name in self.names if name not in self.plain.now["journey"]]
        return self.rarely(self.chance.choice(("", "J", "j0")), self.chance.choice(names or self.names))

    def name(self):
        return self.rarely("nobody", self.chance.choice(list(self.plain.now["journey"]) or self.names))

    def place(self):
        return self.rarely("e", self.chance.choice(self.places))

    def run(self):
        many = self.plain.many()
        return self.rarely(self.chance.choice((-1, FAR, many)), self.chance.randrange(many or 1))

    def moment(self):
        near = self.chance.randint(-3, 60) * 100 + self.chance.choice((-1, 0, 1))
        return self.rarely(self.chance.choice((FAR, -FAR)), near)

    def legs(self, start):
        """Runs that lead on from a place, most of them one hanging on the other."""
        found, place, ready = [], start, -FAR
        for step in range(self.chance.choice((0, 1, 2, 2, 3, 4))):
            after = [run for run in range(self.plain.many()) if self.plain.told(run)[0] == place]
            good = [run for run in after if self.plain.goes(run) and self.plain.goes(run)[3] >= ready]
            others = [run for run in good if any(run in row[2] for row in self.plain.now["journey"].values())]
            choices = self.rarely(after, others if others and self.chance.random() < 0.6 else good)
            if choices:
                found.append(self.chance.choice(choices))
                place = self.plain.told(found[-1])[1]
                ready = self.plain.told(found[-1])[3] + self.plain.spans()[place]
        if self.chance.random() < 0.04:
            found.append(self.run())
        return found, place

    def draw(self):
        kind = self.chance.choice(KINDS)
        if self.plain.undone and self.chance.random() < 0.4:
            kind = self.chance.choice(("undo", "redo"))
        return (kind,) + getattr(self, "draw_" + kind)()

    def draw_place(self):
        name = "e" if self.chance.random() < 0.2 else self.chance.choice(self.places)
        clock = self.chance.choice((0, 900, -900, 61, 61, 901)), self.chance.choice((0, 10, 1000, 1000, -1))
        return (self.rarely("", name),) + clock

    def draw_run(self):
        leaves = 100 * self.chance.randint(0, 40)
        comes = leaves + self.rarely(0, self.chance.choice((40, 90, 100, 1400)))
        return self.place(), self.place(), leaves, comes, self.rarely(0, self.chance.choice((1, 2, 2, 3)))

    def draw_news(self):
        word = self.chance.choice((("gone", 0), ("on", 0), ("slip", 10), ("slip", 100), ("slip", 2000)))
        stamp = self.chance.choice((FAR, -FAR, self.chance.randint(-20, 20)))
        legs = [run for row in self.plain.now["journey"].values() for run in row[2]]
        run = self.chance.choice(legs) if legs and self.chance.random() < 0.6 else self.run()
        return (run, stamp) + self.rarely(("on", 1), word)

    def draw_journey(self):
        start = self.place()
        legs, goal = self.legs(start)
        return self.new_name(), start, self.rarely(self.place(), goal), legs

    def draw_turn(self):
        name = self.name()
        start, goal = self.plain.now["journey"].get(name, ("a", "a"))[:2]
        drawn = [self.legs(start) for turn in range(8)]
        fits = [legs for legs, place in drawn if place == goal]
        return name, self.chance.choice(fits or [legs for legs, place in drawn])

    def draw_drop(self):
        return (self.name(),)

    def draw_share(self):
        rows = self.plain.now["journey"]
        fits = [
            (one, other, run)
            for one in rows for other in rows for run in rows[one][2] if run in rows[other][2] and one != other]
        if fits and self.chance.random() < 0.8:
            return self.chance.choice(fits)
        return self.name(), self.name(), self.run()

    def draw_unshare(self):
        if self.plain.now["share"] and self.chance.random() < 0.8:
            both, run = self.chance.choice(self.plain.now["share"])
            one, other = sorted(both, reverse=self.chance.random() < 0.5)
            return one, other, run
        return self.draw_share()

    def draw_bed(self):
        return self.name(), self.place(), self.chance.randint(-1, 3)

    def draw_unbed(self):
        return self.chance.choice(self.plain.now["bed"]) if self.plain.now["bed"] else self.draw_bed()

    def draw_settle(self):
        return (self.name(),)

    def draw_mend(self):
        rows = self.plain.now["journey"]
        faulty = [name for name in rows if self.plain.fault(rows[name][2]) is not None]
        return self.chance.choice(faulty) if faulty and self.chance.random() < 0.8 else self.name(), self.moment()

    def draw_undo(self):
        return ()

    draw_redo = draw_undo


class BothCase(unittest.TestCase):
    def do_both(self, book, plain, deed):
        if deed[0] in ("undo", "redo"):
            told = answer(getattr(plain, deed[0]))
        else:
            told = answer(plain.do, deed)
        given = [list(part) if isinstance(part, list) else part for part in deed[1:]]
        self.assertEqual(answer(getattr(book, deed[0]), *given), told, deed)
        self.assertEqual(given, list(deed[1:]))
        for part in given:
            if isinstance(part, list):
                part.append(-5)
        return told

    def begun(self, chance, many, places=PLACES):
        """A book with all places and so many runs, and the plain one beside it."""
        book, plain = Book(), PlainBook()
        for place in places:
            self.do_both(book, plain, ("place", place, chance.choice((0, 60, -60)), chance.choice((0, 10))))
        while plain.many() < many:
            self.do_both(book, plain, ("run",) + AnyDeeds(chance, plain, places=places).draw_run())
        return book, plain

    def drawn(self, seed, many, most, turns):
        """A book with so many runs at first, at most so many later, behind deeds by chance; and what draws them."""
        chance = random.Random(seed)
        book, plain = self.begun(chance, many)
        draws = AnyDeeds(chance, plain)
        for turn in range(turns):
            deed = draws.draw()
            if not (deed[0] == "run" and plain.many() >= most):
                self.do_both(book, plain, deed)
        return book, plain, draws

    def assert_alike(self, book, plain, moments, names=NAMES, places=PLACES):
        """All questions of all modules tell the same of both, and any paper holds."""
        asked = (names + ("nobody",), moments, (-FAR, -3, 0, 7, FAR), places + ("e", ""))
        self.assertEqual(seen(book, *asked), seen(plain, *asked))
        self.assertEqual(deeds_to_come(book), deeds_to_come(plain))
        for name in plain.now["journey"]:
            for moment in moments:
                paper = barred(book, name, moment)
                self.assertTrue(paper_fits(plain, name, moment, paper), (name, moment, paper))
        for moment in moments:
            self.assertEqual(answer(barred, book, "nobody", moment), ("refused", "NoJourney", {}))
