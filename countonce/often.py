"""Equally frequent reports: has each pair as many matches of one report as of another one, in every valid database?"""

from countonce.classes import is_empty
from countonce.copies import canonical_match
from countonce.databases import is_cell, is_valid_database
from countonce.inclusion import is_inclusion_evidence
from countonce.matching import group_of, is_row_of, measured_row
from countonce.paths import walk
from countonce.reports import alias_tables, filter_values
from countonce.results import pair_matches
from countonce.spans import Spans
from countonce.within import need_comparable


def equally_often(report, other):
    """Return an answer to the question whether two reports are equally frequent; raise OtherReports()."""
    need_comparable(report, other)
    if is_empty(report) and is_empty(other):
        return ("yes", None)
    for one, two in [(report, other), (other, report)]:
        found = None if is_empty(one) else difference(one, two)
        if found is not None:
            return ("no", *found)
    return ("yes", undoing_evidence(report, other))


def difference(report, other):
    """Return (database, measured row, group) with different numbers of matches of two reports, or None.

    The database is a part of what each match of the first report, which is not empty, needs. If there is no such part,
    nor one for the reports exchanged, they are equally frequent: Each one has a match that spans all that the other
    one needs, and the ways from one to the other and back can be repeated until they lead to each row itself.
    """
    growth, match = canonical_match(report, filter_values(other))
    spans = Spans(report.schema, growth.database)
    row = measured_row(report, match)
    group = group_of(report, match)
    ones = spans.counts(report, row, group)
    others = spans.counts(other, row, group)
    differing = [span for span in [*ones, *others] if ones.get(span, 0) != others.get(span, 0)]
    if not differing:
        return None
    # The part with the rows of a span has the matches of this span and those of the spans within it. Each span within
    # it is a smaller number, so that both reports have equally many matches of it, but not of the least differing one.
    return (spans.part(min(differing)), row, group)


def undoing_evidence(report, other):
    """Return evidence that two reports are equally frequent, which they are; neither one is empty."""
    growth, match = canonical_match(report, filter_values(other))
    back_growth, _ = canonical_match(other, filter_values(report))
    found = spanning_match(report, growth, match, other)
    tables = alias_tables(report)
    other_tables = alias_tables(other)
    forth = {alias: growth.place(other_tables[alias], found[alias]) for alias in other_tables}
    # The rows that the other report needs become the rows that this one needs, each one another one.
    leads = {}
    for table in report.schema.tables:
        for row in back_growth.database[table.name]:
            start, path = back_growth.place(table, row)
            reached = walk(report.schema, growth.database, other_tables[start], found[start], path)
            leads[(table.name, reached[1])] = (start, path)
    return (forth, {alias: leads[(tables[alias].name, match[alias])] for alias in tables})


def spanning_match(report, growth, match, other):
    """Return a match of the other report with the pair of a match that spans all rows of its canonical database."""
    spans = Spans(report.schema, growth.database)
    row = measured_row(report, match)
    group = group_of(report, match)
    whole = spans.span(report, match)
    for found in pair_matches(other, growth.database, row, group):
        if spans.span(other, found) == whole:
            return found
    return None


def is_often_answer(report, other, value):
    """Tell whether any value is an answer that equally_often may return; raise OtherReports()."""
    need_comparable(report, other)
    if not isinstance(value, tuple):
        return False
    if len(value) == 2 and value[0] == "yes":
        return is_often_evidence(report, other, value[1])
    if len(value) != 4 or value[0] != "no":
        return False
    _, database, row, group = value
    if not is_valid_database(report.schema, database) or not is_group(group):
        return False
    if not is_row_of(report.schema.table(report.aliases[0][1]), database, row):
        return False
    many = len(list(pair_matches(report, database, row, group)))
    return many != len(list(pair_matches(other, database, row, group)))


def is_group(value):
    """Tell whether any value is a tuple of cells; True equals 1, but it is no cell."""
    return isinstance(value, tuple) and all([is_cell(cell) for cell in value])


def is_often_evidence(report, other, value):
    """Tell whether any value is evidence that two reports are equally frequent."""
    if is_empty(report) and is_empty(other):
        return value is None
    if not isinstance(value, tuple) or len(value) != 2:
        return False
    forth, back = value
    if not is_inclusion_evidence(report, other, forth) or not is_inclusion_evidence(other, report, back):
        return False
    return are_undone(report, other, forth, back) and are_undone(other, report, back, forth)


def are_undone(report, other, forth, back):
    """Tell whether forth and then back lead to the row of each alias of a report itself, in every match of it."""
    growth, match = canonical_match(report, filter_values(other))
    tables = alias_tables(report)
    for alias in tables:
        middle, path = back[alias]
        start, before = forth[middle]
        reached = walk(report.schema, growth.database, tables[start], match[start], (*before, *path))
        if reached[1] != match[alias]:
            return False
    return True
