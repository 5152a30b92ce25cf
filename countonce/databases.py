"""Databases: what is one, and where one is not valid."""

from countonce.schemas import optional_columns
from countonce.texts import HIGHEST


def is_integer(value):
    """Tell whether any value is an integer; True and False are none."""
    return isinstance(value, int) and not isinstance(value, bool)


def is_cell(value):
    """Tell whether any value is a cell: None or an integer from 0 to the highest value."""
    if value is None:
        return True
    return is_integer(value) and 0 <= value <= HIGHEST


def is_row(table, value):
    """Tell whether any value is a tuple of cells, one for each column of a table."""
    if not isinstance(value, tuple) or len(value) != len(table.columns):
        return False
    return all([is_cell(cell) for cell in value])


def are_rows(table, value):
    """Tell whether any value is a list of different rows of a table."""
    if not isinstance(value, list) or not all([is_row(table, row) for row in value]):
        return False
    return len(set(value)) == len(value)


def is_database(schema, value):
    """Tell whether any value is a database of a schema, valid or not."""
    if not isinstance(value, dict) or len(value) != len(schema.tables):
        return False
    return all([table.name in value and are_rows(table, value[table.name]) for table in schema.tables])


def is_valid(schema, database):
    """Tell whether a database is valid."""
    for _ in violations(schema, database):
        return False
    return True


def is_valid_database(schema, value):
    """Tell whether any value is a valid database of a schema."""
    return is_database(schema, value) and is_valid(schema, value)


def violations(schema, database):
    """Yield each violation of a database once."""
    for table in schema.tables:
        rows = database[table.name]
        yield from wrong_cells(table, rows)
        for key in table.unique:
            yield from equal_keys(table, rows, key)
        for number, refer in enumerate(table.refers):
            target = schema.table(refer[1])
            present = main_keys(target, database[target.name])
            yield from lost_references(table, rows, number, present)


def wrong_cells(table, rows):
    """Yield a violation for each row with None where it may not be."""
    for row in rows:
        if is_none_wrong(table, row):
            yield ("cell", table.name, row)


def is_none_wrong(table, row):
    """Tell whether a row is None in a column of no optional reference, or in a part of one."""
    free = optional_columns(table)
    if None in [cell for column, cell in zip(table.columns, row) if column not in free]:
        return True
    for columns, _, required in table.refers:
        nones = cells_at(row, places_of(table, columns)).count(None)
        if not required and 0 < nones < len(columns):
            return True
    return False


def equal_keys(table, rows, key):
    """Yield a violation for each two rows with equal cells in a key."""
    places = places_of(table, key)
    rows_with = {}
    for row in rows:
        cells = cells_at(row, places)
        if None not in cells:
            same = rows_with.setdefault(cells, [])
            for earlier in same:
                yield ("key", table.name, earlier, row, key)
            same.append(row)


def lost_references(table, rows, number, present):
    """Yield a violation for each row with a reference to none of the main keys that are present."""
    places = places_of(table, table.refers[number][0])
    for row in rows:
        cells = cells_at(row, places)
        if None not in cells and cells not in present:
            yield ("reference", table.name, row, number)


def main_keys(table, rows):
    """Return a dict that has the cells in the main key of each row as a key."""
    places = places_of(table, table.unique[0])
    return {cells_at(row, places): True for row in rows}


def places_of(table, columns):
    """Return the list of the places of some columns in the rows of a table."""
    return [table.columns.index(column) for column in columns]


def cells_at(row, places):
    """Return the tuple of the cells of a row at some places."""
    return tuple([row[place] for place in places])
