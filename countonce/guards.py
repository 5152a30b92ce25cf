"""Guarded databases: rows for which guards hold at all times."""

from countonce.determined import need_columns
from countonce.errors import GuardBroken
from countonce.limits import need_room
from countonce.matching import cell_at, column_places
from countonce.results import matches, pair_counts, pairs
from countonce.stores import Changes, Store
from countonce.within import need_comparable

MOST_GUARDS = 8


class Guarded:
    """A guarded database, at first without rows and without guards."""

    def __init__(self, schema):
        self._store = Store(schema)
        self._guards = []

    def __len__(self):
        return len(self._guards)

    def rows(self, table):
        """Return the list of the rows of a table in ascending order; raise UnknownTable(table)."""
        return self._store.rows(table)

    def apply(self, inserts, deletes):
        """Delete, then insert all rows of two lists of tuples (table, row), all or none.

        Raise the errors of such changes of a live database, then GuardBroken(number, found).
        """
        changes = Changes(self._store)
        changes.take(inserts, deletes)
        database = changes.checked()
        for number, guard in enumerate(self._guards):
            need_unbroken(number, guard, database)
        self._store.keep(database)

    def guard_determined(self, report, columns, column):
        """Add a guard and return its number; raise UnknownColumn(column), TooMany(8) or GuardBroken(number, found)."""
        need_columns(report, [*columns, column])
        return self._add(DeterminedGuard(report, columns, column))

    def guard_within(self, report, other):
        """Add a guard and return its number; raise OtherReports(), TooMany(8) or GuardBroken(number, found)."""
        need_comparable(report, other)
        return self._add(WithinGuard(report, other))

    def guard_often(self, report, other):
        """Add a guard and return its number; raise OtherReports(), TooMany(8) or GuardBroken(number, found)."""
        need_comparable(report, other)
        return self._add(OftenGuard(report, other))

    def _add(self, guard):
        number = len(self._guards)
        need_room(number, MOST_GUARDS)
        need_unbroken(number, guard, self._store.database)
        self._guards.append(guard)
        return number


def need_unbroken(number, guard, database):
    """Raise GuardBroken(number, found) if the guard with this number does not hold in a database."""
    found = guard.broken_by(database)
    if found is not None:
        raise GuardBroken(number, found)


class DeterminedGuard:
    """Asks that a list of columns of a report determines a column of it."""

    def __init__(self, report, columns, column):
        self._report = report
        self._columns = list(columns)
        self._column = column

    def broken_by(self, database):
        """Return two matches that agree on the list and not on the column, or None."""
        places = column_places(self._report)
        first = {}
        for match in matches(self._report, database):
            cells = tuple([cell_at(places, match, column) for column in self._columns])
            other = first.setdefault(cells, match)
            if cell_at(places, other, self._column) != cell_at(places, match, self._column):
                return (other, match)
        return None


class WithinGuard:
    """Asks that a report is within another one."""

    def __init__(self, report, other):
        self._report = report
        self._other = other

    def broken_by(self, database):
        """Return a pair of the report that is none of the other one, or None."""
        present = {pair: True for pair in pairs(self._other, database)}
        for pair in pairs(self._report, database):
            if pair not in present:
                return pair
        return None


class OftenGuard:
    """Asks that two reports are equally frequent."""

    def __init__(self, report, other):
        self._report = report
        self._other = other

    def broken_by(self, database):
        """Return a pair with different numbers of matches of the two reports, or None."""
        ones = pair_counts(self._report, database)
        others = pair_counts(self._other, database)
        for pair in [*ones, *others]:
            if ones.get(pair, 0) != others.get(pair, 0):
                return pair
        return None
