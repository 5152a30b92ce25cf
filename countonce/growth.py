"""Databases that are made as evidence: rows of a report's aliases, and the rows to which they refer."""

from countonce.databases import cells_at, places_of


class Growth:
    """A database that grows. Each row has a place in it: a tuple (start, path) that leads to the row.

    A start is an alias, and a path is a tuple of numbers of references, from its row on.
    """

    def __init__(self, schema, barred):
        self.database = {table.name: [] for table in schema.tables}
        self._schema = schema
        self._barred = list(barred)
        self._lowest = 0
        self._places = {}
        self._rows = {}

    def new_value(self):
        """Return a value that is not barred, another one each time."""
        while self._lowest in self._barred:
            self._lowest += 1
        self._lowest += 1
        return self._lowest - 1

    def put(self, table, row, place):
        """Add a row unless it is there; only then this is its place."""
        if (table.name, row) not in self._places:
            self.database[table.name].append(row)
            self._places[(table.name, row)] = place
            self._rows[(table.name, cells_at(row, places_of(table, table.unique[0])))] = row

    def place(self, table, row):
        """Return the place of a row of a table."""
        return self._places[(table.name, row)]

    def follow(self, table, row, place, number):
        """Add the row to which a reference of a row at a place refers, if no row has its main key.

        The rows to which required references lead from there are added in the same way.
        """
        columns, name, _ = table.refers[number]
        cells = cells_at(row, places_of(table, columns))
        target = self._schema.table(name)
        if (name, cells) not in self._rows:
            added = self._row_with_key(target, cells)
            reached = (place[0], (*place[1], number))
            self.put(target, added, reached)
            for further, refer in enumerate(target.refers):
                if refer[2]:
                    self.follow(target, added, reached, further)

    def _row_with_key(self, table, cells):
        """Return a row with these cells in the main key, None in optional references and new values elsewhere."""
        row = {column: cell for column, cell in zip(table.unique[0], cells)}
        for columns, _, required in table.refers:
            if not required:
                row.update({column: None for column in columns})
        return tuple([row[column] if column in row else self.new_value() for column in table.columns])
