"""Stores: the rows of a database that is always valid, and changes of them."""

from countonce.databases import is_row, violations
from countonce.errors import MissingRow, PresentRow, Violation, WrongRow


class Store:
    """The rows of a valid database, at first none. Each table has its rows in ascending order."""

    def __init__(self, schema):
        self.schema = schema
        self.database = {table.name: [] for table in schema.tables}

    def rows(self, table):
        """Return the list of the rows of a table; raise UnknownTable(table)."""
        return list(self.database[self.schema.table(table).name])

    def keep(self, database):
        """Take the rows of a valid database instead of those so far."""
        for name in database:
            self.database[name] = sorted(database[name], key=order_of)


def order_of(row):
    """Return what rows are compared by: None is less than all values."""
    return tuple([-1 if cell is None else cell for cell in row])


class Changes:
    """Changes of the rows of a store, collected in order. The store does not know of them."""

    def __init__(self, store):
        self._schema = store.schema
        self._rows = {name: {row: True for row in store.database[name]} for name in store.database}

    def insert(self, table, row):
        """Insert a row; raise UnknownTable(table), WrongRow(row) or PresentRow(row)."""
        if self._has(table, row):
            raise PresentRow(row)
        self._rows[table][row] = True

    def delete(self, table, row):
        """Delete a row; raise UnknownTable(table), WrongRow(row) or MissingRow(row)."""
        if not self._has(table, row):
            raise MissingRow(row)
        del self._rows[table][row]

    def _has(self, table, row):
        if not is_row(self._schema.table(table), row):
            raise WrongRow(row)
        return row in self._rows[table]

    def take(self, inserts, deletes):
        """Delete, then insert all rows of two lists of tuples (table, row)."""
        for table, row in deletes:
            self.delete(table, row)
        for table, row in inserts:
            self.insert(table, row)

    def checked(self):
        """Return the database with all changes; raise Violation(found) if it is not valid."""
        database = {name: list(self._rows[name]) for name in self._rows}
        for found in violations(self._schema, database):
            raise Violation(found)
        return database
