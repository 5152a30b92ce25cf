"""Dependencies: which classes of a report's columns determine which others.

Classes are gathered in an integer that has one bit for each of them: | puts two such together, and & tells what they
have in common. So it takes little time to go through all lists of columns.
"""

from countonce.classes import Classes
from countonce.errors import TooManyColumns
from countonce.reports import alias_tables, all_columns

MOST_OPEN = 12


class Dependencies:
    """What determines what in a report, after all allowed steps ("same", ...)."""

    def __init__(self, report):
        self.classes = Classes(report)
        self.classes.take_same_steps()
        self._firsts = {}
        for column in all_columns(report):
            self._firsts.setdefault(self.classes.class_of(column), column)
        bits = {number: 1 << place for place, number in enumerate(self._firsts)}
        self._bits = {column: bits[self.classes.class_of(column)] for column in all_columns(report)}
        self.everything = self.gathered(list(self._bits))
        self._always = self._first_known()
        self._keys = []
        tables = alias_tables(report)
        for alias in tables:
            row = self.gathered([(alias, name) for name in tables[alias].columns])
            for key in tables[alias].unique:
                self._keys.append((self.gathered([(alias, name) for name in key]), row))

    def _first_known(self):
        if self.classes.is_contradiction():
            return self.everything
        values = self.classes.class_values()
        return self.gathered([column for column in self._bits if self.classes.class_of(column) in values])

    def gathered(self, columns):
        """Return the classes of some columns."""
        found = 0
        for column in columns:
            found = found | self._bits[column]
        return found

    def closure(self, chosen):
        """Return all classes that some classes determine."""
        known = chosen | self._always
        before = None
        while known != before:
            before = known
            for key, row in self._keys:
                if covers(known, key):
                    known = known | row
        return known

    def columns_in(self, chosen):
        """Return the list of the columns of some classes."""
        return [column for column in self._bits if covers(chosen, self._bits[column])]

    def open_columns(self):
        """Return the list of the open columns; raise TooManyColumns(count) if there are more than twelve."""
        known = self.closure(0)
        found = [column for column in list(self._firsts.values()) if not covers(known, self._bits[column])]
        if len(found) > MOST_OPEN:
            raise TooManyColumns(len(found))
        return found


def covers(chosen, wanted):
    """Tell whether all wanted classes are among some classes."""
    return chosen & wanted == wanted
