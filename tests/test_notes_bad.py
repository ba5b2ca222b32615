"""Point [18]: rows that are not those of a book, each refused with the first one that is wrong."""

import unittest

from drawn import BothCase
from oracle_asks import bad_row, plain_of
from wayhold.errors import BadText
from wayhold.notes import book_rows, read_book

SIXTY = "9" * 60
# Rows of each kind, two or more of each. Journeys: runs 0 and 1 have two seats and two journeys each.
ROWS = (
    "place a 0 5", "place b 60 10", "place c -60 0",                                                  # 0 to 2
    "run a b 0 100 2", "run b c 110 200 2", "run c a 300 400 5", "run a b 500 600 5",                 # 3 to 6
    "news 0 -3 slip 7", "news 0 9 gone 0", "news 0 10 on 0", "news 1 -20 on 0", "news 3 0 slip 20000",  # 7 to 11
    "journey j a c 0 1", "journey k a b 0 1 2 3", "journey l b b", "journey m c b 2 3",               # 12 to 15
    "share j k 0", "share j k 1", "share k m 2", "share k m 3",                                       # 16 to 19
    "bed j a -3", "bed j b -3", "bed j b 2", "bed j b 10", "bed l a 0",                               # 20 to 24
)
KINDS = ("place", "run", "news", "journey", "share", "bed")
FIRST = {kind: min(at for at, row in enumerate(ROWS) if row.startswith(kind)) for kind in KINDS}
# Where in a row of each kind a number stands, and where a name; counted in words.
NUMBERS = {"place": (2, 3), "run": (3, 4, 5), "news": (1, 2, 4), "journey": (4, 5), "share": (3,), "bed": (3,)}
NAMES = {"place": (1,), "run": (1, 2), "news": (), "journey": (1, 2, 3), "share": (1, 2), "bed": (1, 2)}


def with_row(at, row):
    """The rows with another one in a place."""
    return list(ROWS[:at]) + [row] + list(ROWS[at + 1:])


def with_word(at, word_at, word):
    """The rows with another word in one of them."""
    words = ROWS[at].split(" ")
    words[word_at] = word
    return with_row(at, " ".join(words))


def with_more(at, *rows):
    """The rows with more of them ahead of a place."""
    return list(ROWS[:at]) + list(rows) + list(ROWS[at:])


class BadRowCase(unittest.TestCase):
    def assert_bad(self, rows, at):
        """The very row is refused, whatever follows, and the rows ahead of it are those of a book."""
        self.assertEqual(bad_row(rows), at, rows)
        for told in (rows, rows[:at + 1], rows[:at + 1] + ["", "no row"]):
            kept = list(told)
            with self.assertRaises(BadText, msg=rows[at]) as caught:
                read_book(told)
            self.assertIs(type(caught.exception), BadText)
            self.assertEqual(vars(caught.exception), {"row": at}, rows[at])
            self.assertEqual(told, kept)
        self.assertEqual(book_rows(read_book(rows[:at])), rows[:at])

    def assert_good(self, rows):
        self.assertEqual(bad_row(rows), None)
        self.assertEqual(book_rows(read_book(rows)), rows)


class FormTests(BadRowCase):
    def test_the_rows_by_themselves_are_good(self):
        self.assert_good(list(ROWS))

    def test_empty_rows_and_blanks_alone(self):
        for at in range(len(ROWS) + 1):
            for row in ("", " ", "  "):
                self.assert_bad(with_more(at, row), at)

    def test_words_that_are_none_of_the_six(self):
        for at in range(len(ROWS)):
            words = ROWS[at].split(" ")
            for kind in ("Place", "RUN", "runs", "new", "turn", "drop", "mend", "x", "0", "", "-", words[0] + ":",
                         words[0].upper(), words[0][1:], words[0] + words[0]):
                self.assert_bad(with_row(at, " ".join([kind] + words[1:])), at)

    def test_another_kind_s_word(self):
        for at in FIRST.values():
            for kind in KINDS:
                if not ROWS[at].startswith(kind):
                    self.assert_bad(with_row(at, " ".join([kind] + ROWS[at].split(" ")[1:])), at)

    def test_too_few_words(self):
        for at in range(len(ROWS)):
            words = ROWS[at].split(" ")
            for many in range(1, 4 if words[0] == "journey" else len(words)):
                self.assert_bad(with_row(at, " ".join(words[:many])), at)

    def test_too_many_words(self):
        for at in range(len(ROWS)):
            for more in ("0", "a", "j", "-1", "0 0"):
                self.assert_bad(with_row(at, ROWS[at] + " " + more), at)

    def test_blanks(self):
        for at in range(len(ROWS)):
            words = ROWS[at].split(" ")
            for gap in range(len(words) + 1):
                # An empty word: two blanks, or one at an end.
                self.assert_bad(with_row(at, " ".join(words[:gap] + [""] + words[gap:])), at)
            self.assert_bad(with_row(at, " " + ROWS[at] + " "), at)
            self.assert_bad(with_row(at, ROWS[at].replace(" ", "  ")), at)
            self.assert_bad(with_row(at, ROWS[at].replace(" ", "_")), at)
            self.assert_bad(with_row(at, ROWS[at].replace(" ", "")), at)

    def test_numbers_that_are_not_written_so(self):
        for kind in KINDS:
            for at in [at for at, row in enumerate(ROWS) if row.startswith(kind)]:
                words = ROWS[at].split(" ")
                for word_at in [one for one in NUMBERS[kind] if one < len(words)]:
                    old = words[word_at]
                    for word in ("0" + old, "+" + old, "--" + old, old + "-", old + ".", old + ".0", old + "e0",
                                 old + "_0", "0x" + old, old + "a", "a" + old, "'" + old, "-", "+", "a", "A", "~",
                                 "-0", "00", "-00", "01", "-01", "+1", "+0", "1_0", "1" + "0" * 60, "-1" + "0" * 60,
                                 "9" * 61, "0" * 61, "1" * 1900, "1,0", "(1)", "1/1", "l", "O"):
                        self.assert_bad(with_word(at, word_at, word), at)

    def test_signs_that_are_no_figures(self):
        signs = [chr(code) for code in range(ord(" "), ord("~") + 1) if chr(code) not in "0123456789%"]
        for at, word_at in ((0, 2), (5, 5), (11, 2), (15, 5), (19, 3), (24, 3)):
            old = ROWS[at].split(" ")[word_at]
            for sign in signs:
                self.assert_bad(with_word(at, word_at, old + sign), at)
                self.assert_bad(with_word(at, word_at, sign), at)
                if sign != "-" or old == "0":
                    self.assert_bad(with_word(at, word_at, sign + old), at)
        for sign in signs:
            if not "a" <= sign <= "z":
                self.assert_bad(with_word(0, 1, "a" + sign), 0)
                self.assert_bad(with_word(12, 1, sign + "j"), 12)

    def test_sixty_figures_and_one_more(self):
        for at, word_at in ((5, 5), (10, 2), (11, 2), (24, 3)):
            for sign in ("", "-"):
                if not (at == 5 and sign):
                    self.assert_good(with_word(at, word_at, sign + SIXTY))
                self.assert_bad(with_word(at, word_at, sign + SIXTY + "0"), at)
        self.assert_bad(with_word(5, 5, "-" + SIXTY), 5)
        self.assert_bad(with_word(8, 2, SIXTY), 9)

    def test_names_that_are_none_or_strangers(self):
        for kind in KINDS:
            for at in [at for at, row in enumerate(ROWS) if row.startswith(kind)]:
                for word_at in NAMES[kind]:
                    for word in ("A", "a-", "a_b", "a.b", "abcdefghijklm", "x" * 1900, "~", "-", "J", "Z" * 12):
                        self.assert_bad(with_word(at, word_at, word), at)
        for kind, word_at in (("run", 1), ("run", 2), ("journey", 2), ("journey", 3), ("share", 1), ("share", 2),
                              ("bed", 1), ("bed", 2)):
            for at in [at for at, row in enumerate(ROWS) if row.startswith(kind)]:
                for word in ("d", "z", "zzzzzzzzzzzz", "0", "9"):
                    self.assert_bad(with_word(at, word_at, word), at)

    def test_names_of_twelve_signs(self):
        self.assert_good([
            "place abcdefghijkl 0 0", "place x123456789yz 0 0", "journey 000000000000 abcdefghijkl abcdefghijkl"])
        self.assert_bad(["place abcdefghijklm 0 0"], 0)
        self.assert_bad(["place a 0 0", "journey abcdefghijklm a a"], 1)


class OrderTests(BadRowCase):
    def test_kinds_out_of_order(self):
        # A row of an earlier kind, right by itself, behind one of a later kind.
        more = {"place": "place d 0 0", "run": "run a b 0 1 1", "news": "news 3 1 on 0", "journey": "journey n a a",
                "share": "share l l 0"}
        ends = {kind: max(at for at, row in enumerate(ROWS) if row.startswith(kind)) + 1 for kind in KINDS}
        for kind, row in more.items():
            if kind != "share":
                self.assert_good(with_more(ends[kind], row))
            for at in range(ends[kind] + 1, len(ROWS) + 1):
                self.assert_bad(with_more(at, row), at)
        for at in (20, 21):
            rows = [row for row in ROWS if row != "share k m 3"]
            self.assert_bad(rows[:at] + ["share k m 3"] + rows[at:], at)

    def test_names_out_of_order(self):
        self.assert_bad(with_more(1, "place 9 0 0"), 1)
        self.assert_bad(with_more(2, "place aa 0 0"), 2)
        self.assert_bad(with_more(3, "place bb 0 0"), 3)
        self.assert_good(with_more(2, "place bb 0 0"))
        self.assert_bad(with_more(13, "journey i a a"), 13)
        self.assert_bad(with_more(16, "journey ll a a"), 16)
        self.assert_good(with_more(15, "journey ll a a"))
        self.assert_bad(["place 9 0 0", "place 10 0 0"], 1)
        self.assert_good(["place 10 0 0", "place 9 0 0"])

    def test_news_out_of_order(self):
        self.assert_bad(with_more(8, "news 0 -4 on 0"), 8)
        self.assert_bad(with_more(10, "news 0 8 on 0"), 10)
        self.assert_bad(with_more(9, "news 0 1 on 0"), 9)
        self.assert_good(with_more(8, "news 0 1 on 0"))
        self.assert_bad(with_more(11, "news 0 11 on 0"), 11)
        self.assert_bad(with_more(12, "news 2 99 on 0"), 12)
        self.assert_good(with_more(11, "news 2 99 on 0"))
        self.assert_good(with_more(10, "news 0 100 on 0"))

    def test_stamps_and_days_are_numbers_in_order(self):
        rows = ["place a 0 0", "place b 0 0"] + ["run a b 0 1 1"] * 11
        self.assert_bad(rows + ["news 10 0 on 0", "news 9 0 on 0"], 14)
        self.assert_good(rows + ["news 9 0 on 0", "news 10 0 on 0"])
        self.assert_bad(rows + ["news 9 10 on 0", "news 9 9 on 0"], 14)
        self.assert_bad(rows + ["news 9 -9 on 0", "news 9 -10 on 0"], 14)

    def test_shares_out_of_order(self):
        rows = list(ROWS[:16])
        for first, second in (("share j k 0", "share j k 1"), ("share j k 1", "share k m 2"),
                              ("share k m 2", "share k m 3")):
            self.assert_good(rows + [first, second])
            self.assert_bad(rows + [second, first], 17)
        rows = ["place a 0 0", "place b 0 0"] + ["run a b 0 1 3", "run b a 2 3 3"] * 6
        rows += ["journey %s a b 2 9 10" % name for name in "xyz"]
        for first, second in (("share x y 2", "share x y 10"), ("share x y 10", "share x z 2"),
                              ("share x z 10", "share y z 2")):
            self.assert_good(rows + [first, second])
            self.assert_bad(rows + [second, first], 18)

    def test_beds_out_of_order(self):
        rows = list(ROWS[:20])
        for first, second in (("bed j a 5", "bed j b -5"), ("bed j c 5", "bed l a -5"), ("bed j a 9", "bed j a 10"),
                              ("bed j a -10", "bed j a -9"), ("bed j a -1", "bed j a 0"), ("bed j a 5", "bed k a 5")):
            self.assert_good(rows + [first, second])
            self.assert_bad(rows + [second, first], 21)

    def test_one_twice(self):
        for at, row in enumerate(ROWS):
            if not row.startswith("run"):
                self.assert_bad(with_more(at + 1, row), at + 1)
        self.assert_good(with_more(7, "run a b 0 100 2"))
        self.assert_bad(with_more(1, "place a 1 5"), 1)
        self.assert_bad(with_more(8, "news 0 -3 on 0"), 8)
        self.assert_bad(with_more(8, "news 0 -3 slip 8"), 8)
        self.assert_bad(with_more(15, "journey l a a"), 15)

    def test_the_greater_name_first_and_one_name_twice(self):
        self.assert_bad(with_row(16, "share k j 0"), 16)
        self.assert_bad(with_row(19, "share m k 3"), 19)
        self.assert_bad(with_more(20, "share m k 3"), 20)
        self.assert_bad(with_row(16, "share j j 0"), 16)
        self.assert_bad(with_row(19, "share m m 3"), 19)


class BoundsTests(BadRowCase):
    def assert_bounds(self, at, word_at, least, most):
        for number in (least, most):
            self.assert_good(with_word(at, word_at, str(number)))
        for number in (least - 1, most + 1, -int(SIXTY), int(SIXTY)):
            self.assert_bad(with_word(at, word_at, str(number)), at)

    def test_clocks_and_spans(self):
        for at in (0, 1, 2):
            self.assert_bounds(at, 2, -900, 900)
            self.assert_bounds(at, 3, 0, 1000)

    def test_times_of_runs(self):
        self.assert_bounds(6, 3, -40000, 599)
        self.assert_bounds(6, 4, 501, 40000)
        self.assert_bad(with_row(6, "run a b 500 500 5"), 6)
        self.assert_bad(with_row(6, "run a b 40000 40000 5"), 6)
        self.assert_bad(with_row(6, "run a b 40000 40001 5"), 6)
        self.assert_bad(with_row(6, "run a b -40001 -40000 5"), 6)
        self.assert_good(with_row(6, "run a b -40000 40000 5"))

    def test_seats(self):
        for seats in ("0", "-1", "-" + SIXTY):
            self.assert_bad(with_word(6, 5, seats), 6)
        self.assert_bad(with_row(6, "run a b 0 1 0"), 6)
        self.assert_good(with_row(6, "run a b 0 1 2"))

    def test_start_and_goal_of_a_run(self):
        for row in ("run a a 0 1 1", "run c c 0 1 1"):
            self.assert_bad(with_more(7, row), 7)

    def test_words_and_numbers_of_news(self):
        self.assert_bounds(7, 4, 0, 20000)
        self.assert_bounds(8, 4, 0, 0)
        self.assert_bounds(9, 4, 0, 0)
        for word in ("Slip", "on0", "off", "late", "", "gon", "0", "slips"):
            self.assert_bad(with_word(9, 3, word), 9)
        self.assert_good(with_word(9, 3, "gone"))
        self.assert_good(with_word(11, 3, "slip"))
        self.assert_bad(with_word(11, 3, "gone"), 11)

    def test_runs_that_are_not_there(self):
        for run in ("4", "-1", SIXTY, "-" + SIXTY, "40"):
            self.assert_bad(with_word(11, 1, run), 11)
            self.assert_bad(with_word(15, 4, run), 15)
            self.assert_bad(with_word(15, 5, run), 15)
            self.assert_bad(with_word(19, 3, run), 19)

    def test_a_thirteenth_place(self):
        rows = ["place n%02d 0 0" % at for at in range(13)]
        self.assert_good(rows[:12])
        self.assert_bad(rows, 12)
        self.assert_bad(rows + ["place n13 0 0"], 12)

    def test_a_forty_first_run(self):
        rows = ["place a 0 0", "place b 0 0"] + ["run a b 0 1 1"] * 41
        self.assert_good(rows[:42])
        self.assert_bad(rows, 42)
        self.assert_bad(rows[:42] + ["news 40 0 on 0"], 42)
        self.assert_good(rows[:42] + ["news 39 0 on 0"])

    def test_a_thirteenth_journey(self):
        rows = ["place a 0 0"] + ["journey n%02d a a" % at for at in range(13)]
        self.assert_good(rows[:13])
        self.assert_bad(rows, 13)


class BookRulesTests(BadRowCase):
    def test_a_journey_s_places_lead_so(self):
        for row in ("journey l a b", "journey l b c", "journey l a a 2", "journey l c c 2", "journey l c b 3 2",
                    "journey l c b 2 2", "journey l c b 2 1", "journey l a b 2 3", "journey l c a 2 3",
                    "journey l c b 2", "journey l c b"):
            self.assert_bad(with_row(14, row), 14)
        for row in ("journey l a a", "journey l c a 2", "journey l a b 3", "journey l c b 2 3"):
            self.assert_good(with_row(14, row))

    def test_a_run_twice_in_a_journey(self):
        rows = ["place a 0 0", "place b 0 0", "run a b 0 1 9", "run b a 2 3 9", "run a b 4 5 9"]
        self.assert_bad(rows + ["journey x a b 0 1 0"], 5)
        self.assert_bad(rows + ["journey x a a 0 1 0 1"], 5)
        self.assert_bad(rows + ["journey x a a 0 1 2 1"], 5)
        self.assert_good(rows + ["journey x a b 0 1 2"])
        self.assert_good(rows + ["journey x a b 2 1 0"])

    def test_seats_and_journeys(self):
        rows = ["place a 0 0", "place b 0 0", "run a b 0 1 1", "run a b 0 1 2", "run b a 2 3 3"]
        self.assert_bad(rows + ["journey x a b 0", "journey y a b 0"], 6)
        self.assert_bad(rows + ["journey x a b 1", "journey y a b 1", "journey z a b 1"], 7)
        self.assert_good(rows + ["journey x a b 0", "journey y a b 1", "journey z a b 1"])
        self.assert_bad(rows + ["journey w a b 1", "journey x a b 0", "journey y a a 1 2", "journey z a a 1 2"], 8)
        self.assert_bad(rows + ["journey w a b 0", "journey x a b 1", "journey y a a 0 2"], 7)
        self.assert_bad(with_more(16, "journey n a b 0"), 16)

    def test_shares_of_runs_that_one_lacks(self):
        for row in ("share j k 2", "share j l 0", "share j m 0", "share k l 0", "share l m 2"):
            self.assert_bad(list(ROWS[:16]) + [row], 16)
        for row in ("share j n 0", "share i j 0", "share a b 0"):
            self.assert_bad(list(ROWS[:16]) + [row], 16)

    def test_beds_at_no_place_and_of_no_journey(self):
        for row in ("bed j d 0", "bed j j 0", "bed j 0 0", "bed n a 0", "bed a a 0"):
            self.assert_bad(list(ROWS[:20]) + [row], 20)

    def test_a_place_behind_the_row_that_names_it_is_too_late(self):
        self.assert_bad(["place a 0 0", "run a b 0 1 1", "place b 0 0"], 1)
        self.assert_bad(["place a 0 0", "place b 0 0", "news 0 0 on 0", "run a b 0 1 1"], 2)
        self.assert_bad(["place a 0 0", "bed x a 0", "journey x a a"], 1)
        self.assert_bad(["journey x a a", "place a 0 0"], 0)

    def test_a_journey_with_a_fault_is_read(self):
        self.assert_good(with_row(8, "news 0 9 slip 11"))
        self.assert_good([row for row in ROWS if row != "news 0 10 on 0"])


class TwoFaultsTests(BadRowCase):
    def test_the_first_row_of_them(self):
        wrong = ((0, "place a 0 -1"), (2, "place C 0 0"), (4, "run b c 0 0 1"), (8, "news 0 +9 on 0"), (13, ""),
                 (15, "journey m c b 3 2"), (17, "share j k"), (21, "bed j b  -3"), (24, "bed l a 01"))
        for at, row in wrong:
            for other, other_row in wrong:
                if at < other:
                    rows = with_row(at, row)
                    rows[other] = other_row
                    self.assert_bad(rows, at)

    def test_of_the_first_fault_alone_the_rest_is_not_asked(self):
        self.assert_bad(["place a 0 0", "place a 0 0", "place b 0 0", "run a b 0 1 1"], 1)
        self.assert_bad(["no", "place a 0 0"], 0)
        self.assert_bad(["bed x a 0"], 0)


class AnyRowsTests(BothCase, BadRowCase):
    def changed(self, chance, rows):
        """The rows with something changed somewhere."""
        at = chance.randrange(len(rows))
        words = rows[at].split(" ")
        kind = chance.randrange(7)
        if kind == 0:
            return rows[:at] + rows[at + 1:]
        if kind == 1:
            return rows[:at] + [chance.choice(rows)] + rows[at:]
        if kind == 2:
            other = chance.randrange(len(rows))
            rows[at], rows[other] = rows[other], rows[at]
            return rows
        if kind == 3:
            more = chance.choice(chance.choice(rows).split(" "))
            words[chance.randrange(len(words))] = more
        if kind == 4:
            gap = chance.randrange(len(words) + 1)
            words[gap:gap] = [chance.choice(chance.choice(rows).split(" ") + [""])]
        if kind == 5:
            del words[chance.randrange(len(words))]
        if kind == 6:
            row, sign = " ".join(words), chance.choice("0123456789-+ abcdz~")
            gap = chance.randrange(len(row) + 1)
            words = [row[:gap] + sign + row[gap + chance.randint(0, 1):]]
        return rows[:at] + [" ".join(words)] + rows[at + 1:]

    def test_any_rows(self):
        found = {"good": 0, "bad": 0}
        for seed in range(40):
            book, plain, draws = self.drawn(500 + seed, 6, 9, 40)
            rows = book_rows(book)
            for turn in range(40):
                told = self.changed(draws.chance, list(rows))
                if turn % 4 == 0:
                    told = self.changed(draws.chance, told)
                at = bad_row(told)
                if at is None:
                    found["good"] += 1
                    self.assertEqual(book_rows(read_book(told)), told)
                    self.assert_alike(read_book(told), plain_of(told), (0,))
                else:
                    found["bad"] += 1
                    with self.assertRaises(BadText, msg=told[at]) as caught:
                        read_book(told)
                    self.assertEqual(caught.exception.row, at, told[at])
        self.assertTrue(min(found.values()) > 100, found)


if __name__ == "__main__":
    unittest.main()
