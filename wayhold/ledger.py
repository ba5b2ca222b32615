"""What a book keeps: tables of rows, and the deeds that changed them, so that each can be taken back."""

from wayhold.errors import NoDeed


class Ledger:
    """Tables, the deeds that count, and the deeds that were taken back; a deed stands beside its steps."""

    def __init__(self):
        self.tables = {}
        self.done = []
        self.undone = []

    def table(self, which):
        """The rows of a table by their keys, to be read alone."""
        return self.tables.get(which, {})

    def put(self, which, key, row):
        """Sets the row of a key in a table; None takes it away."""
        rows = self.tables.setdefault(which, {})
        if row is None:
            rows.pop(key, None)
        else:
            rows[key] = row

    def enter(self, deed, changes):
        """Does a deed by its changes, tuples (table, key, row), no key twice."""
        # What stood before is kept with each step: taking back and doing again reckon nothing anew.
        steps = [(which, key, self.table(which).get(key), row) for which, key, row in changes]
        for which, key, row in changes:
            self.put(which, key, row)
        self.done.append((deed, tuple(steps)))
        self.undone = []

    def take_back(self):
        """Takes the last deed back and tells it."""
        if not self.done:
            raise NoDeed("there is no deed to take back")
        deed, steps = self.done.pop()
        for which, key, before, after in steps:
            self.put(which, key, before)
        self.undone.append((deed, steps))
        return deed

    def do_again(self):
        """Does the deed again that was taken back last, and tells it."""
        if not self.undone:
            raise NoDeed("there is no deed to do again")
        deed, steps = self.undone.pop()
        for which, key, before, after in steps:
            self.put(which, key, after)
        self.done.append((deed, steps))
        return deed

    def forget(self):
        """Leaves the rows as they are, with nothing to take back or to do again."""
        self.done = []
        self.undone = []

    def copied(self):
        """A ledger of its own with the same rows and deeds."""
        other = Ledger()
        other.tables = {which: dict(rows) for which, rows in self.tables.items()}
        other.done = list(self.done)
        other.undone = list(self.undone)
        return other
