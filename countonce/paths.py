"""Paths: tuples of numbers of references that lead from row to row."""

from countonce.databases import cells_at, is_integer, places_of


def is_path(value):
    """Tell whether any value is a tuple of integers from 0."""
    if not isinstance(value, tuple):
        return False
    return all([is_integer(number) and number >= 0 for number in value])


def are_required(schema, table, path):
    """Tell whether all references along a path, from a table on, are there and required."""
    for number in path:
        if number >= len(table.refers) or not table.refers[number][2]:
            return False
        table = schema.table(table.refers[number][1])
    return True


def walk(schema, database, table, row, path):
    """Return the table and the row that are reached from a row of a table along a path in a valid database.

    Return None if a reference on the way is None, or if there is none with its number.
    """
    for number in path:
        if number >= len(table.refers):
            return None
        columns, name, _ = table.refers[number]
        cells = cells_at(row, places_of(table, columns))
        if None in cells:
            return None
        table = schema.table(name)
        row = row_with_key(table, database[name], cells)
    return table, row


def row_with_key(table, rows, cells):
    """Return the row that has these cells in the main key, or None."""
    places = places_of(table, table.unique[0])
    for row in rows:
        if cells_at(row, places) == cells:
            return row
    return None
