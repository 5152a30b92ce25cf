"""Databases that are made of a report: with matches that have no more equal cells than its classes need."""

from countonce.classes import Classes
from countonce.growth import Growth
from countonce.reports import Report, alias_tables, all_columns, filter_values, tested_columns


def two_matches(report, knowledge):
    """Return a valid database and two matches in it that have equal cells in just the known classes.

    All allowed steps must have been taken, and the report must not be empty.
    """
    known = [column for column in all_columns(report) if knowledge.is_known(column)]
    database, found = agreeing_matches(report, knowledge.classes, [known])
    return database, found[0], found[1]


def agreeing_matches(report, classes, kept):
    """Return a valid database and a list of matches in it: a first one, and one for each list of columns in kept.

    This one has the cells of the first one in the classes of these columns, and other ones elsewhere. All allowed
    steps ("same", ...) must have been taken, the report must not be empty, and each list has all columns that it
    determines.
    """
    growth = Growth(report.schema, filter_values(report))
    first = class_cells(growth, report, classes)
    tables = alias_tables(report)
    found = [whole_match(classes, first, tables)]
    for columns in kept:
        cells = class_cells(growth, report, classes)
        for column in columns:
            cells[classes.class_of(column)] = first[classes.class_of(column)]
        found.append(whole_match(classes, cells, tables))
    followed = {alias: list(range(len(tables[alias].refers))) for alias in tables}
    grow(growth, tables, found, followed)
    return growth.database, found


def whole_match(classes, cells, tables):
    """Return a match that has the cells of its classes everywhere."""
    return {alias: class_row(classes, cells, alias, tables[alias], []) for alias in tables}


def canonical_match(report, barred):
    """Return a Growth that begins with a match of a report which is not empty, and this match.

    Each valid database with a match has, in the same places, all that this one has. No barred value is used.
    """
    growth = Growth(report.schema, [*filter_values(report), *barred])
    classes = Classes(report)
    classes.take_same_steps()
    cells = class_cells(growth, report, classes)
    tables = alias_tables(report)
    match = {}
    for alias in tables:
        blank = blank_columns(report, classes, alias)
        match[alias] = class_row(classes, cells, alias, tables[alias], blank)
    followed = {alias: first_references(report, alias) for alias in tables}
    grow(growth, tables, [match], followed)
    return growth, match


def canonical_row(report):
    """Return a Growth that begins with a row of the measured table (point 16), and this row."""
    measured, table = report.aliases[0]
    own = [condition for condition in report.filters if condition[0][0] == measured]
    alone = Report(report.schema, report.name, [(measured, table)], [], own, [], None)
    growth, match = canonical_match(alone, filter_values(report))
    return growth, match[measured]


def class_cells(growth, report, classes):
    """Return a dict from the classes of a report to cells: their values, or new ones."""
    cells = {number: values[0] for number, values in classes.class_values().items()}
    for column in all_columns(report):
        number = classes.class_of(column)
        if number not in cells:
            cells[number] = growth.new_value()
    return cells


def class_row(classes, cells, alias, table, blank):
    """Return the row of an alias with the cells of its classes, but None in the blank columns."""
    numbers = {column: classes.class_of((alias, column)) for column in table.columns}
    return tuple([None if column in blank else cells[numbers[column]] for column in table.columns])


def blank_columns(report, classes, alias):
    """Return the columns of the optional references of an alias of which a report asks nothing."""
    tested = [classes.class_of(column) for column in tested_columns(report)]
    blank = []
    for columns, _, required in alias_tables(report)[alias].refers:
        numbers = [classes.class_of((alias, column)) for column in columns]
        if not required and not any([number in tested for number in numbers]):
            blank = [*blank, *columns]
    return blank


def first_references(report, alias):
    """Return the numbers of the references of an alias that are required, or in a link or a filter."""
    tested = tested_columns(report)
    numbers = []
    for number, (columns, _, required) in enumerate(alias_tables(report)[alias].refers):
        if required or any([(alias, column) in tested for column in columns]):
            numbers.append(number)
    return numbers


def grow(growth, tables, found, followed):
    """Add the rows of some matches, and the rows to which they refer.

    Followed has the numbers of the references that are followed from the row of each alias.
    """
    # All matches come first: no reference adds a row with the main key of a row of theirs.
    for match in found:
        for alias in tables:
            growth.put(tables[alias], match[alias], (alias, ()))
    for match in found:
        for alias in tables:
            for number in followed[alias]:
                growth.follow(tables[alias], match[alias], (alias, ()), number)
