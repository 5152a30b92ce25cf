"""The words of points 28 to 30 once more, plainly and in other ways than in the program."""

from tests.plain import (is_plain_database, is_plain_drop_answer, is_plain_empty, is_plain_row, is_plain_yes,
                         plain_canonical_match, plain_matches, plain_pair, shows_plain_drop)


def can_be_compared(report, other):
    """Tell whether two reports can be compared."""
    same = str(report.schema) == str(other.schema) and report.aliases[0][1] == other.aliases[0][1]
    return same and len(report.groups) == len(other.groups)


def is_plain_within_answer(report, other, value):
    """Tell whether any value is an answer to the question whether a report is within another one (point 29)."""
    return is_plain_drop_answer(report, other, value)


def count_of(report, database, row, group):
    """Return the number of matches with a measured row and a group."""
    return [plain_pair(report, match) for match in plain_matches(report, database)].count((group, row))


def is_plain_often_answer(report, other, value):
    if is_plain_yes(value):
        return shows_plain_often(report, other, value[1])
    if type(value) is not tuple or len(value) != 4 or value[0] != "no":
        return False
    _, database, row, group = value
    if not is_plain_database(report.schema, database):
        return False
    if not is_plain_row(report.schema, report.aliases[0][1], database, row):
        return False
    if type(group) is not tuple or not all(type(cell) is int for cell in group):
        return False
    return count_of(report, database, row, group) != count_of(other, database, row, group)


def shows_plain_often(report, other, value):
    """Tell whether any value is evidence that two reports are equally frequent."""
    if is_plain_empty(report) or is_plain_empty(other):
        return is_plain_empty(report) and is_plain_empty(other) and value is None
    if type(value) is not tuple or len(value) != 2:
        return False
    forth, back = value
    if forth is None or back is None:
        return False
    if not shows_plain_drop(report, other, forth) or not shows_plain_drop(other, report, back):
        return False
    return leads_back(report, forth, back) and leads_back(other, back, forth)


def leads_back(report, forth, back):
    """Tell whether each alias of a report is reached again, in the rows that each match of it has."""
    grown, rows = plain_canonical_match(report)
    tables = dict(report.aliases)
    for alias, table in report.aliases:
        middle, path = back[alias]
        start, before = forth[middle]
        if grown.at(tables[start], rows[start], before + path) != (table, rows[alias]):
            return False
    return True
