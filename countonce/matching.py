"""What a match must hold: the links and filters of a report."""

from countonce.databases import is_row
from countonce.reports import alias_tables


def column_places(report):
    """Return a dict from all columns of a report to their places in the rows of their tables."""
    tables = alias_tables(report)
    return {(alias, name): place for alias in tables for place, name in enumerate(tables[alias].columns)}


def cell_at(places, rows, column):
    """Return the cell of a column, where places is as above and rows has the row of its alias."""
    return rows[column[0]][places[column]]


def link_holds(places, rows, link):
    """Tell whether a link holds, where rows has the rows of its aliases."""
    cell = cell_at(places, rows, link[0])
    return cell is not None and cell == cell_at(places, rows, link[1])


def filter_holds(places, rows, condition):
    """Tell whether a filter holds, where rows has the row of its alias."""
    return cell_at(places, rows, condition[0]) == condition[1]


def all_hold(report, rows):
    """Tell whether all links and filters of a report hold, where rows has the rows of all aliases."""
    places = column_places(report)
    if not all([link_holds(places, rows, link) for link in report.links]):
        return False
    return all([filter_holds(places, rows, condition) for condition in report.filters])


def keeps_filters(report, row):
    """Tell whether a row of the measured table keeps all filters on columns of the measured alias."""
    measured = report.aliases[0][0]
    places = column_places(report)
    rows = {measured: row}
    own = [condition for condition in report.filters if condition[0][0] == measured]
    return all([filter_holds(places, rows, condition) for condition in own])


def group_of(report, match):
    """Return the group of a match."""
    places = column_places(report)
    return tuple([cell_at(places, match, column) for column in report.groups])


def measured_row(report, match):
    """Return the measured row of a match."""
    return match[report.aliases[0][0]]


def is_row_of(table, database, value):
    """Tell whether any value is one of the rows of a table in a database."""
    # True equals 1: a tuple with True in it is no row, though it is equal to one.
    return is_row(table, value) and value in database[table.name]


def is_match(report, database, value):
    """Tell whether any value is a match of a report in a database."""
    tables = alias_tables(report)
    if not isinstance(value, dict) or len(value) != len(tables):
        return False
    for alias in tables:
        if alias not in value or not is_row_of(tables[alias], database, value[alias]):
            return False
    return all_hold(report, value)
