"""A book's rows: written from a book, and read to a book."""

from wayhold.asks import clock, ends, journeys, legs, places
from wayhold.book import Book
from wayhold.errors import BadText, NoShare, WayError

FIGURES = "0123456789"
MOST_FIGURES = 60
# The words that begin rows, in the order of rows. Of each: what stands behind it, texts (t) and numbers (n),
# and by how many of these its rows rise; runs stand by their numbers, which are not written.
KINDS = {
    "place": ("tnn", 1), "run": ("ttnnn", 0), "news": ("nntn", 2), "journey": ("ttt", 1), "share": ("ttn", 3),
    "bed": ("ttn", 3),
}


def book_rows(book):
    """The rows of a book, a list of texts."""
    found = [("place", name) + clock(book, name) for name in places(book)]
    for run in range(book.many()):
        found.append(("run",) + book.told(run))
    for run in range(book.many()):
        found.extend([("news", run) + report for report in book.reports(run)])
    names = journeys(book)
    found.extend([("journey", name) + ends(book, name) + tuple(legs(book, name)) for name in names])
    for name in names:
        # Each share is told of both journeys; its row is written with the lesser name alone.
        found.extend([("share", name, other, run) for other, run in book.shared(name) if name < other])
    for name in names:
        found.extend([("bed", name) + bed for bed in book.beds(name)])
    return [" ".join([str(part) for part in parts]) for parts in found]


def read_book(rows):
    """The book that has these rows, with nothing to undo or redo."""
    book = Book()
    last = ()
    for at, row in enumerate(rows):
        parts = parts_of(row)
        # What stands twice is refused when it is entered, so rows may seem alike here.
        if parts is None or rank_of(parts) < last:
            raise BadText(at)
        last = rank_of(parts)
        try:
            enter_row(book, parts)
        except WayError:
            raise BadText(at) from None
    book.ledger.forget()
    return book


def parts_of(row):
    """The word that begins a row and the texts and numbers behind it, a tuple; None where it is no row."""
    kind, *words = row.split(" ")
    if kind not in KINDS:
        return None
    form = KINDS[kind][0]
    if kind == "journey":
        # A journey's runs, as many as there are.
        form += "n" * (len(words) - len(form))
    if len(words) != len(form):
        return None
    parts = [number_of(word) if sign == "n" else word for sign, word in zip(form, words)]
    if None in parts:
        return None
    return (kind,) + tuple(parts)


def number_of(word):
    """The number that a word writes, or None where a number is not written so."""
    figures = word.removeprefix("-")
    if not 1 <= len(figures) <= MOST_FIGURES or not all([sign in FIGURES for sign in figures]):
        return None
    number = int(word)
    if str(number) != word:
        return None
    return number


def rank_of(parts):
    """A tuple by which rows rise: the kind's place among the kinds, and what its rows rise by."""
    kind = parts[0]
    many = KINDS[kind][1]
    return (list(KINDS).index(kind),) + parts[1:1 + many]


def enter_row(book, parts):
    """Enters what a row tells into the book; refuses what no book has."""
    kind, *rest = parts
    if kind == "place":
        name, ahead, span = rest
        book.place(name, ahead, span)
    elif kind == "run":
        start, goal, leaves, comes, seats = rest
        book.run(start, goal, leaves, comes, seats)
    elif kind == "news":
        run, stamp, word, many = rest
        book.news(run, stamp, word, many)
    elif kind == "journey":
        name, start, goal, *runs = rest
        book.journey_as_read(name, start, goal, runs)
    elif kind == "share":
        enter_share(book, rest)
    else:
        name, place, day = rest
        book.bed(name, place, day)


def enter_share(book, rest):
    """Enters a share, the lesser name first."""
    one, other, run = rest
    if other < one:
        raise NoShare("the lesser name stands first")
    book.share(one, other, run)
