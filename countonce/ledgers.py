"""Ledgers: how many matches each pair of a report has in a live database, and how these numbers change."""

from countonce.limits import need_number, need_room
from countonce.results import pair_counts

MOST_MARKS = 16


class Ledger:
    """A ledger of a live database and a report of its schema. It is about committed rows."""

    def __init__(self, live, report):
        self._live = live
        self._report = report
        self._latest = self.standing()
        self._marks = [self._latest]

    def standing(self):
        """Return a dict from all pairs that have a match now to the numbers of their matches."""
        names = [table.name for table in self._report.schema.tables]
        return pair_counts(self._report, {name: self._live.rows(name) for name in names})

    def told(self):
        """Return a dict from pairs to how many more matches they have than when this was told last, or first made."""
        before = self._latest
        self._latest = self.standing()
        return differences(before, self._latest)

    def mark(self):
        """Make a mark and return its number; raise TooMany(16)."""
        need_room(len(self._marks), MOST_MARKS)
        self._marks.append(self.standing())
        return len(self._marks) - 1

    def between(self, first, second):
        """Return a dict from pairs to how many more matches they had at the second mark than at the first one.

        Raise UnknownNumber(number) for the first one of the two that is not the number of a mark.
        """
        need_number(first, len(self._marks))
        need_number(second, len(self._marks))
        return differences(self._marks[first], self._marks[second])


def differences(before, after):
    """Return a dict from the keys of two dicts to how much more the second one has for them, where this is not 0."""
    more = {pair: after.get(pair, 0) - before.get(pair, 0) for pair in [*before, *after]}
    return {pair: more[pair] for pair in more if more[pair] != 0}
