"""The whole document over the whole program: any deeds, in twins and in read books, against a plain book."""

import copy
import random
import unittest

from cases import (
    OF_A_JOURNEY, OF_A_MOMENT, OF_A_RUN, OF_TWO, BookCase, book_to_mend, deeds_to_come, question, seen, spoil)
from drawn import FAR, KINDS, NAMES, PLACES, AnyDeeds, BothCase
from oracle_asks import book_rows as plain_rows
from oracle_asks import plain_of
from wayhold import errors
from wayhold.asks import barred, clock, legs
from wayhold.book import Book
from wayhold.notes import book_rows, read_book

NINETEEN = (
    "BadName", "BadClock", "BadTimes", "BadSeats", "BadNews", "Taken", "NoPlace", "NoRun", "NoJourney", "NoLeg",
    "NoBed", "NoShare", "NoWay", "Twice", "Astray", "Full", "Broken", "NoDeed", "BadText")


class AnyDeedsTests(BothCase):
    def test_any_deeds(self):
        counts = {}
        for seed in range(20):
            chance = random.Random(seed)
            book, plain = self.begun(chance, seed % 9)
            draws = AnyDeeds(chance, plain)
            for turn in range(220):
                deed = draws.draw()
                if deed[0] == "run" and plain.many() >= 11:
                    continue
                told = self.do_both(book, plain, deed)
                word = told[1] if told[0] == "refused" else "let"
                counts[deed[0], word] = counts.get((deed[0], word), 0) + 1
                self.assert_alike(book, plain, (draws.moment(),))
        for kind in set(KINDS):
            self.assertTrue(counts.get((kind, "let"), 0) > 10, (kind, counts))
        refused = {}
        for (kind, word), many in counts.items():
            refused[word] = refused.get(word, 0) + many
        for word in set(NINETEEN) - {"BadText"}:
            self.assertTrue(refused.get(word, 0) > 2, (word, counts))

    def test_twins_and_read_books_go_their_own_ways(self):
        for seed in range(8):
            chance = random.Random(100 + seed)
            pairs = [self.begun(chance, 7)]
            for turn in range(120):
                book, plain = chance.choice(pairs)
                deed = AnyDeeds(chance, plain).draw()
                if not (deed[0] == "run" and plain.many() >= 9):
                    self.do_both(book, plain, deed)
                if turn % 40 == 20:
                    pairs.append((book.twin(), copy.deepcopy(plain)))
                if turn % 40 == 30:
                    pairs.append((read_book(book_rows(book)), plain_of(plain_rows(plain))))
                for book, plain in pairs:
                    self.assert_alike(book, plain, (AnyDeeds(chance, plain).moment(),))

    def test_a_book_that_is_read_again_and_again(self):
        for seed in range(8):
            chance = random.Random(200 + seed)
            book, plain = self.begun(chance, 8)
            for turn in range(160):
                deed = AnyDeeds(chance, plain).draw()
                if not (deed[0] == "run" and plain.many() >= 10):
                    self.do_both(book, plain, deed)
                if turn % 10 == 9:
                    book, plain = read_book(book_rows(book)), plain_of(plain_rows(plain))
                self.assert_alike(book, plain, (AnyDeeds(chance, plain).moment(),))

    def test_books_that_are_full(self):
        names = tuple("j%d" % at for at in range(12))
        places = PLACES + tuple("p%d" % at for at in range(8))
        for seed in range(3):
            chance = random.Random(700 + seed)
            # Many runs between few places, so that journeys are long and have runs in common.
            book, plain = self.begun(chance, 36)
            for place in places[4:]:
                self.do_both(book, plain, ("place", place, chance.choice((0, 900, -900)), chance.choice((0, 1000))))
            draws = AnyDeeds(chance, plain, names)
            for turn in range(20):
                self.do_both(book, plain, ("journey",) + draws.draw_journey())
            for turn in range(60):
                self.do_both(book, plain, draws.draw())
                self.assert_alike(book, plain, (draws.moment(),), names, places)
            for turn in range(5):
                self.do_both(book, plain, ("run", "a", places[turn], 0, 1, 1))
                self.do_both(book, plain, ("place", "q%d" % turn, 0, 0))
            self.assertEqual((plain.many(), len(plain.now["place"])), (40, 12))
            rows = book_rows(book)
            self.assert_alike(read_book(rows), plain_of(rows), (0, 1499, 1500, 1501), names, places)


class NewsOrderTests(BothCase):
    def test_two_books_with_news_in_unlike_orders(self):
        for seed in range(40):
            chance = random.Random(800 + seed)
            book, plain = self.begun(chance, 9)
            draws = AnyDeeds(chance, plain)
            for kind in ["journey"] * 7 + ["share"] * 4 + ["bed"] * 3:
                self.do_both(book, plain, (kind,) + getattr(draws, "draw_" + kind)())
            news = {}
            for turn in range(12):
                run, stamp, word, many = draws.draw_news()
                if 0 <= run < 9 and (word, many) != ("on", 1):
                    news[run, stamp] = (run, stamp, word, many)
            told = list(news.values())
            found = []
            for order in (told, told[::-1], sorted(told), chance.sample(told, len(told))):
                twin = book.twin()
                for row in order:
                    twin.news(*row)
                answers = seen(twin, NAMES, (-1, 0, 100, 999, 1000, FAR), (-FAR, -5, 0, 5, FAR))
                del answers[2]
                papers = [barred(twin, name, now) for name in plain.now["journey"] for now in (-1, 500, 1500)]
                found.append((answers, [paper is None for paper in papers], book_rows(twin)))
            for other in found[1:]:
                self.assertEqual(other, found[0])


class SharedTests(BothCase):
    def asked(self, book, plain, draws):
        """Each question of each module, with what is handed in."""
        found = [(book.many,), (book.spans,), (book.log,)]
        found += [(question(book, ask), book) for ask in ("places", "journeys", "book_rows")]
        found += [(clock, book, place) for place in PLACES]
        for run in range(plain.many()):
            found += [(getattr(book, ask), run) for ask in OF_A_RUN] + [(book.known, run, 0)]
        for name in plain.now["journey"]:
            found += [(getattr(book, ask), name) for ask in ("shared", "beds", "wanted")]
            found += [(question(book, ask), book, name) for ask in OF_A_JOURNEY]
            for now in (draws.moment(), draws.moment()):
                found += [(book.mended, name, now), (barred, book, name, now)]
                found += [(question(book, ask), book, name, now) for ask in OF_A_MOMENT]
            found += [(question(book, ask), book, name, other) for ask in OF_TWO for other in plain.now["journey"]]
        return found

    def test_what_is_told_can_be_changed_and_the_same_is_told_again(self):
        for seed in range(12):
            book, plain, draws = self.drawn(900 + seed, 9, 11, 70)
            for ask, *args in self.asked(book, plain, draws):
                told = ask(*args)
                kept = copy.deepcopy(told)
                spoil(told)
                self.assertEqual(ask(*args), kept, ask)
            self.assert_alike(book, plain, (draws.moment(), draws.moment()))

    def test_what_deeds_tell_can_be_changed(self):
        book = book_to_mend(1)
        spoil(book.mend("x", 0))
        self.assertEqual(legs(book, "x"), [0, 7, 2])
        spoil(book.undo())
        spoil(book.redo())
        self.assertEqual((legs(book, "x"), book.log()[-1]), ([0, 7, 2], ("mend", "x", 0)))

    def test_a_question_leaves_what_can_be_done_again(self):
        for seed in range(6):
            book, plain, draws = self.drawn(1000 + seed, 9, 11, 50)
            for turn in range(4):
                self.do_both(book, plain, ("undo",))
            self.assertEqual(len(deeds_to_come(book)) > 3, True)
            for ask, *args in self.asked(book, plain, draws):
                ask(*args)
            self.assert_alike(book, plain, (draws.moment(),))
            for turn in range(5):
                self.do_both(book, plain, ("redo",))
                self.assert_alike(book, plain, (draws.moment(),))


class RefusalTests(BookCase):
    def test_each_of_the_nineteen(self):
        for read in (False, True):
            book = book_to_mend(1)
            book.journey("y", "b", "d", [7, 2])
            book.share("x", "y", 2)
            if read:
                book = read_book(book_rows(book))
            met = {
                "BadName": (book.place, "A", 0, 0), "BadClock": (book.place, "e", 901, 0),
                "BadTimes": (book.run, "a", "b", 1, 1, 1), "BadSeats": (book.run, "a", "b", 1, 2, 0),
                "BadNews": (book.news, 0, 0, "off", 0), "Taken": (book.journey, "x", "a", "a", []),
                "NoPlace": (clock, book, "e"), "NoRun": (book.goes, 8), "NoJourney": (legs, book, "w"),
                "NoLeg": (book.share, "x", "y", 0), "NoBed": (book.unbed, "x", "a", 0),
                "NoShare": (book.unshare, "x", "y", 0), "NoWay": (book.mend, "x", 150),
                "Twice": (book.share, "y", "x", 2), "Astray": (book.turn, "x", [0]),
                "Full": (book.journey, "w", "b", "c", [7]), "Broken": (book.turn, "x", [0, 1, 2]),
                "NoDeed": (book.redo,), "BadText": (read_book, ["place a 0 0", "place"]),
            }
            fields = {"Broken": {"at": 1, "word": "gone"}, "BadText": {"row": 1}}
            self.assertEqual(set(met), set(NINETEEN))
            for name, (deed, *args) in met.items():
                with self.assertRaises(errors.WayError) as caught:
                    deed(*args)
                self.assertIsInstance(caught.exception, ValueError)
                classes = [one for one in NINETEEN if isinstance(caught.exception, getattr(errors, one))]
                self.assertEqual(classes, [name])
                self.assertEqual(vars(caught.exception), fields.get(name, {}))
                if name != "BadText":
                    self.refused(getattr(errors, name), deed, *args, **fields.get(name, {}))

    def test_a_read_book_has_nothing_to_undo(self):
        self.refused(errors.NoDeed, read_book([]).undo)
        self.refused(errors.NoDeed, Book().undo)


if __name__ == "__main__":
    unittest.main()
