"""Trees (points 18 and 21): what shows that a measured row has no match, or none with a given group."""

from countonce.databases import is_integer
from countonce.matching import cell_at, column_places
from countonce.reports import alias_tables


class Conditions:
    """What a match must hold: the links and filters of a report and, if it is not None, a group.

    An item names one of them: ("link", number), ("filter", number) or ("group", number).
    """

    def __init__(self, report, group):
        self._places = column_places(report)
        self._conditions = {("link", number): link for number, link in enumerate(report.links)}
        for number, condition in enumerate(report.filters):
            self._conditions[("filter", number)] = condition
        if group is not None:
            for number, column in enumerate(report.groups):
                self._conditions[("group", number)] = (column, group[number])

    def has_item(self, value):
        """Tell whether any value is an item."""
        if not isinstance(value, tuple) or len(value) != 2:
            return False
        return isinstance(value[0], str) and is_integer(value[1]) and value in self._conditions

    def items_about(self, alias):
        """Return the list of the items for what is about an alias, and perhaps about another one."""
        found = []
        for item in self._conditions:
            column, other = self._conditions[item]
            if column[0] == alias or (item[0] == "link" and other[0] == alias):
                found.append(item)
        return found

    def fails(self, item, rows):
        """Tell whether what an item names does not hold, where rows has the rows of some aliases.

        It does not fail as long as one of its aliases has no row.
        """
        column, other = self._conditions[item]
        if column[0] not in rows:
            return False
        cell = cell_at(self._places, rows, column)
        if item[0] != "link":
            return cell != other
        if other[0] not in rows:
            return False
        return cell is None or cell != cell_at(self._places, rows, other)


class Search:
    """The search for a match with a measured row and, if it is not None, a group.

    Afterwards, match is such a match, or it is None and tree shows that there is none.
    """

    def __init__(self, report, database, row, group):
        tables = alias_tables(report)
        measured = report.aliases[0][0]
        self._rows = {alias: database[tables[alias].name] for alias in tables}
        self._conditions = Conditions(report, group)
        self._items = {alias: self._conditions.items_about(alias) for alias in tables}
        self.match = None
        self.tree = self._first_failing(measured, {measured: row})
        if self.tree is None:
            self.tree = self._tree({measured: row})

    def _first_failing(self, alias, rows):
        """Return the first item about an alias that fails, or None."""
        for item in self._items[alias]:
            if self._conditions.fails(item, rows):
                return item
        return None

    def _tree(self, rows):
        """Return a tree for the case that aliases have these rows, or None if there is a match with them.

        Nothing fails yet with these rows.
        """
        branches = {}
        for alias in self._rows:
            if alias not in rows:
                branches[alias] = [self._first_failing(alias, {**rows, alias: row}) for row in self._rows[alias]]
        if not branches:
            self.match = rows
            return None
        # The alias with the fewest rows that are left keeps the tree small.
        alias = min(list(branches), key=lambda name: branches[name].count(None))
        for number, row in enumerate(self._rows[alias]):
            if branches[alias][number] is None:
                branches[alias][number] = self._tree({**rows, alias: row})
            if branches[alias][number] is None:
                return None
        return (alias, branches[alias])


def is_tree(report, database, row, group, value):
    """Tell whether any value is a tree for a measured row and, if it is not None, a group."""
    conditions = Conditions(report, group)
    return is_tree_for(conditions, alias_tables(report), database, {report.aliases[0][0]: row}, value)


def is_tree_for(conditions, tables, database, rows, value):
    """Tell whether any value is a tree for the case that aliases have these rows."""
    if conditions.has_item(value):
        return conditions.fails(value, rows)
    if not isinstance(value, tuple) or len(value) != 2 or not isinstance(value[1], list):
        return False
    alias, branches = value
    if alias not in list(tables) or alias in rows:
        return False
    choices = database[tables[alias].name]
    if len(branches) != len(choices):
        return False
    for choice, branch in zip(choices, branches):
        if not is_tree_for(conditions, tables, database, {**rows, alias: choice}, branch):
            return False
    return True
