"""Results of a report in a database: its matches, pairs and sums."""

from countonce.databases import cells_at
from countonce.matching import cell_at, column_places, filter_holds, group_of, keeps_filters, link_holds
from countonce.reports import alias_tables


def matches(report, database):
    """Yield each match of a report once, in the order of the places of its rows."""
    names = list(alias_tables(report))
    plan = joining_plan(report, database)
    for rows in joined_rows(plan, ()):
        yield {name: row for name, row in zip(names, rows)}


def joined_rows(plan, chosen):
    """Yield the tuples of rows that begin with the chosen ones and have one row for each part of a plan."""
    if len(chosen) == len(plan):
        yield chosen
        return
    rows_with, wanted = plan[len(chosen)]
    cells = tuple([chosen[number][place] for number, place in wanted])
    for row in rows_with.get(cells, []):
        more = (*chosen, row)
        yield from joined_rows(plan, more)


def joining_plan(report, database):
    """Return for each alias its rows by some of their cells, and where these cells stand in rows of earlier aliases.

    Rows that do not hold what the report asks of this alias alone are left out.
    """
    places = column_places(report)
    plan = []
    before = []
    for alias, table in report.aliases:
        own, wanted = joining_cells(report, places, before, alias)
        rows_with = {}
        for row in database[table]:
            cells = cells_at(row, own)
            if None not in cells and holds_alone(report, places, alias, row):
                rows_with.setdefault(cells, []).append(row)
        plan.append((rows_with, wanted))
        before.append(alias)
    return plan


def joining_cells(report, places, before, alias):
    """Return the places in the rows of an alias that links join to earlier aliases, and the joined places.

    A joined place is a tuple (number of the earlier alias, place in its row).
    """
    own = []
    wanted = []
    turned = [(other, column) for column, other in report.links]
    for one, two in [*report.links, *turned]:
        if one[0] == alias and two[0] in before:
            own.append(places[one])
            wanted.append((before.index(two[0]), places[two]))
    return own, wanted


def holds_alone(report, places, alias, row):
    """Tell whether a row holds all links and filters that are about one alias alone."""
    rows = {alias: row}
    for link in report.links:
        if link[0][0] == alias and link[1][0] == alias and not link_holds(places, rows, link):
            return False
    own = [condition for condition in report.filters if condition[0][0] == alias]
    return all([filter_holds(places, rows, condition) for condition in own])


def pair_matches(report, database, row, group):
    """Yield each match with a measured row and a group once."""
    names = list(alias_tables(report))
    plan = joining_plan(report, database)
    chosen = (row,)
    if row in plan[0][0].get((), []):
        for rows in joined_rows(plan, chosen):
            match = {name: one for name, one in zip(names, rows)}
            if group_of(report, match) == group:
                yield match


def all_pairs(report, database):
    """Return the list of the pairs of all matches, as often as they occur."""
    places = column_places(report)
    measured = report.aliases[0][0]
    found = []
    for match in matches(report, database):
        group = tuple([cell_at(places, match, column) for column in report.groups])
        found.append((group, match[measured]))
    return found


def pairs(report, database):
    """Return the list of all pairs, each once."""
    found = {pair: True for pair in all_pairs(report, database)}
    return list(found)


def pair_counts(report, database):
    """Return a dict from all pairs to the numbers of their matches."""
    counts = {}
    for pair in all_pairs(report, database):
        counts[pair] = counts.get(pair, 0) + 1
    return counts


def joined(report, database):
    """Return the joined result: the sums over all matches, by their groups."""
    return sums_by_group(report, all_pairs(report, database))


def counted(report, database):
    """Return the counted result: the sums over the different measured rows of each group."""
    return sums_by_group(report, pairs(report, database))


def sums_by_group(report, found):
    """Return the sums of the measure over a list of pairs, by their groups."""
    sums = {}
    for group, row in found:
        sums[group] = sums.get(group, 0) + worth(report, row)
    return sums


def total(report, database):
    """Return the sum of the measure over the different measured rows that have a match."""
    rows = {row: True for _, row in all_pairs(report, database)}
    return sum([worth(report, row) for row in rows])


def plain_sum(report, database):
    """Return the sum of the measure over the measured rows that keep the filters on their own columns."""
    rows = database[report.aliases[0][1]]
    return sum([worth(report, row) for row in rows if keeps_filters(report, row)])


def worth(report, row):
    """Return what a measured row counts: its cell of the measure, or 1 if rows are counted."""
    if report.measure is None:
        return 1
    table = report.schema.table(report.aliases[0][1])
    cell = row[table.columns.index(report.measure)]
    return 0 if cell is None else cell
