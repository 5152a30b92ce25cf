"""Inclusion: is each pair of a report a pair of another one, in every valid database?

The measured aliases of both name one table, and they have equally many group columns.
"""

from countonce.classes import is_empty
from countonce.copies import canonical_match, first_references
from countonce.databases import is_valid_database
from countonce.matching import all_hold, group_of, is_match, measured_row
from countonce.paths import are_required, is_path, walk
from countonce.reports import alias_tables, filter_values
from countonce.trees import Search, is_tree


def inclusion(report, other):
    """Return ("yes", evidence) as in point 20, or ("no", database, match, tree) as in point 21.

    The report stands for the one without an alias there, and the other one for the one with it.
    """
    if is_empty(report):
        return ("yes", None)
    growth, match = canonical_match(report, filter_values(other))
    search = Search(other, growth.database, measured_row(report, match), group_of(report, match))
    if search.match is None:
        return ("no", growth.database, match, search.tree)
    tables = alias_tables(other)
    return ("yes", {alias: growth.place(tables[alias], search.match[alias]) for alias in tables})


def is_inclusion(report, other, value):
    """Tell whether any value is an answer that inclusion may return."""
    if not isinstance(value, tuple):
        return False
    if len(value) == 2 and value[0] == "yes":
        return is_inclusion_evidence(report, other, value[1])
    if len(value) != 4 or value[0] != "no":
        return False
    _, database, match, tree = value
    if not is_valid_database(report.schema, database) or not is_match(report, database, match):
        return False
    return is_tree(other, database, measured_row(report, match), group_of(report, match), tree)


def is_inclusion_evidence(report, other, value):
    """Tell whether any value is evidence that each pair of a report is a pair of the other one."""
    if is_empty(report):
        return value is None
    if not isinstance(value, dict) or len(value) != len(other.aliases):
        return False
    # What holds in this one database holds in each valid one with a match, for it has no more than they all have.
    growth, match = canonical_match(report, filter_values(other))
    rows = {}
    for alias, name in other.aliases:
        if alias not in value or not is_lead(report, value[alias]):
            return False
        start, path = value[alias]
        reached = walk(report.schema, growth.database, alias_tables(report)[start], match[start], path)
        if reached[0].name != name:
            return False
        rows[alias] = reached[1]
    if not all_hold(other, rows) or group_of(other, rows) != group_of(report, match):
        return False
    return measured_row(other, rows) == measured_row(report, match)


def is_lead(report, value):
    """Tell whether any value is a tuple (start, path) that leads to a row in every match of a report."""
    if not isinstance(value, tuple) or len(value) != 2:
        return False
    start, path = value
    tables = alias_tables(report)
    if start not in list(tables) or not is_path(path):
        return False
    if path == ():
        return True
    if path[0] not in first_references(report, start):
        return False
    target = tables[start].refers[path[0]][1]
    return are_required(report.schema, report.schema.table(target), path[1:])
