"""Live databases: rows that are changed in transactions, and reports and watches that go with them."""

from countonce.answers import adds_up, counts_once, loses_none
from countonce.errors import PromiseBroken, TransactionClosed, TransactionOpen
from countonce.limits import need_number, need_room
from countonce.results import joined
from countonce.stores import Changes, Store

MOST_REPORTS = 8
MOST_WATCHES = 8


class Live:
    """A live database, at first without rows. All that it tells is about committed rows."""

    def __init__(self, schema):
        self._store = Store(schema)
        self._latest = None
        self._reports = []
        self._watched = []
        self._seen = []

    def rows(self, table):
        """Return the list of the committed rows of a table in ascending order; raise UnknownTable(table)."""
        return self._store.rows(table)

    @property
    def transaction(self):
        """The open transaction, or None."""
        if self._latest is not None and self._latest.is_open:
            return self._latest
        return None

    def begin(self):
        """Open a transaction and return it; raise TransactionOpen() if one is open."""
        self._need_none_open()
        self._latest = Transaction(self._store)
        return self._latest

    def apply(self, inserts, deletes):
        """Make one transaction that deletes, then inserts all rows of two lists of tuples (table, row)."""
        self._need_none_open()
        changes = Changes(self._store)
        changes.take(inserts, deletes)
        self._store.keep(changes.checked())

    def _need_none_open(self):
        if self.transaction is not None:
            raise TransactionOpen()

    def add_report(self, report, *, once=False, sums=False, none_lost=False):
        """Add a report and return its number; raise TooMany(8), or PromiseBroken(promise, answer)."""
        need_room(len(self._reports), MOST_REPORTS)
        if once:
            need_promise("once", counts_once(report))
        if sums:
            need_promise("sums", adds_up(report))
        if none_lost:
            need_promise("none_lost", loses_none(report))
        self._reports.append(report)
        return len(self._reports) - 1

    def result(self, number):
        """Return the joined result of a report; raise UnknownNumber(number)."""
        need_number(number, len(self._reports))
        return joined(self._reports[number], self._store.database)

    def watch(self, number):
        """Make a watch for a report and return its number; raise UnknownNumber(number) or TooMany(8)."""
        need_number(number, len(self._reports))
        need_room(len(self._watched), MOST_WATCHES)
        self._watched.append(number)
        self._seen.append(self.result(number))
        return len(self._watched) - 1

    def changes(self, number):
        """Return the list of the groups that a watch tells; raise UnknownNumber(number)."""
        need_number(number, len(self._watched))
        before = self._seen[number]
        now = self.result(self._watched[number])
        self._seen[number] = now
        gone = [group for group in before if group not in now]
        return sorted(gone + [group for group in now if before.get(group) != now[group]])


def need_promise(promise, answer):
    """Raise PromiseBroken(promise, answer) if the answer is no."""
    if answer[0] == "no":
        raise PromiseBroken(promise, answer)


class Transaction:
    """Changes of a live database that are made together, or not at all."""

    def __init__(self, store):
        self.is_open = True
        self._store = store
        self._changes = Changes(store)

    def insert(self, table, row):
        """Insert a row; raise UnknownTable(table), WrongRow(row) or PresentRow(row)."""
        self._need_open()
        self._changes.insert(table, row)

    def delete(self, table, row):
        """Delete a row; raise UnknownTable(table), WrongRow(row) or MissingRow(row)."""
        self._need_open()
        self._changes.delete(table, row)

    def commit(self):
        """Make the changes; raise Violation(found) if the database would not be valid."""
        self._need_open()
        self._store.keep(self._changes.checked())
        self.is_open = False

    def rollback(self):
        """Drop the changes."""
        self._need_open()
        self.is_open = False

    def _need_open(self):
        if not self.is_open:
            raise TransactionClosed()

    def __enter__(self):
        return self

    # The live database asks a transaction whether it is open, so that this is all that has to be told.
    def __exit__(self, kind, value, trace):
        self.is_open = False
