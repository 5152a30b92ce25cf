"""The smallest lists of columns that determine a column or the match, and the greatest ones that do not."""

from countonce.dependencies import Dependencies, covers
from countonce.errors import UnknownColumn
from countonce.reports import all_columns


def least_lists(report, column=None):
    """Return all smallest lists for a column, or for the match; raise UnknownColumn or TooManyColumns."""
    need_column_or_none(report, column)
    choices = Choices(Dependencies(report))
    return choices.lists(choices.least(column))


def greatest_lists(report, column=None):
    """Return all greatest lists for a column, or for the match; raise UnknownColumn or TooManyColumns."""
    need_column_or_none(report, column)
    choices = Choices(Dependencies(report))
    return choices.lists(choices.greatest(column))


def need_column_or_none(report, value):
    """Raise UnknownColumn(value) if any value is not None and no column of a report."""
    if value is not None and value not in all_columns(report):
        raise UnknownColumn(value)


class Choices:
    """All choices of open columns and what they determine. Raises TooManyColumns(count)."""

    def __init__(self, dependencies):
        self.columns = dependencies.open_columns()
        self.closures = {0: dependencies.closure(0)}
        self._dependencies = dependencies
        self._bits = [dependencies.gathered([column]) for column in self.columns]
        for bit in self._bits:
            for chosen in list(self.closures):
                self.closures[chosen | bit] = dependencies.closure(chosen | bit)

    def least(self, column):
        """Return the choices that determine a column, or the match, but do not if one column is left out."""
        telling = self._telling(column)
        found = []
        for chosen in self.closures:
            fewer = [chosen ^ bit for bit in self._bits if chosen & bit]
            if telling[chosen] and not any([telling[other] for other in fewer]):
                found.append(chosen)
        return found

    def greatest(self, column):
        """Return the choices that do not determine a column, or the match, but do with any one column more."""
        telling = self._telling(column)
        found = []
        for chosen in self.closures:
            more = [chosen | bit for bit in self._bits if not chosen & bit]
            if not telling[chosen] and all([telling[other] for other in more]):
                found.append(chosen)
        return found

    def _telling(self, column):
        """Return a dict that tells of each choice whether it determines a column, or the match."""
        wanted = self._dependencies.everything if column is None else self._dependencies.gathered([column])
        return {chosen: covers(self.closures[chosen], wanted) for chosen in self.closures}

    def lists(self, found):
        """Return some choices as tuples of columns, in ascending order."""
        places = [tuple([place for place, bit in enumerate(self._bits) if chosen & bit]) for chosen in found]
        return [tuple([self.columns[place] for place in one]) for one in sorted(places)]
