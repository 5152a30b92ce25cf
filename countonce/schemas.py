"""Schemas: tables with their columns, keys and references, and the text form of all this."""

from countonce.errors import UnknownTable
from countonce.texts import Rows

MOST_TABLES = 5
MOST_COLUMNS = 5
MOST_KEYS = 3
MOST_KEY_COLUMNS = 3
MOST_REFERENCES = 2


class Table:
    """A table. Its first key is the main one; a reference is (columns, table name, required)."""

    def __init__(self, name, columns, unique, refers):
        self.name = name
        self.columns = tuple(columns)
        self.unique = tuple(unique)
        self.refers = tuple(refers)


class Schema:
    """A list of tables. It never changes."""

    def __init__(self, tables):
        self.tables = tuple(tables)
        self._text = "\n".join([row for table in self.tables for row in table_rows(table)])

    @classmethod
    def parse(cls, text):
        """Return the schema of a text form; raise InvalidText(row) if it is none."""
        rows = Rows(text)
        return cls(read_tables(rows))

    def table(self, name):
        """Return the table of a name; raise UnknownTable(name) if there is none."""
        for table in self.tables:
            if table.name == name:
                return table
        raise UnknownTable(name)

    def __str__(self):
        return str(self._text)

    def __eq__(self, other):
        return isinstance(other, Schema) and self._text == other._text


def optional_columns(table):
    """Return the list of the columns of a table's optional references."""
    return [column for columns, _, required in table.refers if not required for column in columns]


def table_rows(table):
    """Return the rows of a table's text form."""
    rows = [f"table {table.name}"]
    for column in table.columns:
        rows.append(f"  column {column}")
    for key in table.unique:
        names = " ".join(key)
        rows.append(f"  key {names}")
    for columns, target, required in table.refers:
        word = "ref" if required else "optional"
        names = " ".join(columns)
        rows.append(f"  {word} {names} -> {target}")
    rows.append("end")
    return rows


def read_tables(rows):
    """Read the tables of a schema, up to the end of the text."""
    tables = []
    while not tables or not rows.all_read():
        tables.append(read_table(rows, tables))
    return tables


def read_table(rows, above):
    """Read one table, below the tables above it."""
    name = rows.new_name("table ", [table.name for table in above])
    rows.need(len(above) < MOST_TABLES)
    columns = read_columns(rows)
    keys = read_keys(rows, columns)
    refers = read_references(rows, Table(name, columns, keys, []), above)
    rows.exactly("end")
    return Table(name, columns, keys, refers)


def read_columns(rows):
    """Read the columns of a table."""
    columns = []
    while not columns or rows.begins("  column "):
        columns.append(rows.new_name("  column ", columns))
        rows.need(len(columns) <= MOST_COLUMNS)
    return columns


def read_keys(rows, columns):
    """Read the keys of a table that has these columns."""
    keys = []
    while not keys or rows.begins("  key "):
        key = tuple(rows.words("  key "))
        rows.need(len(key) <= MOST_KEY_COLUMNS and are_different(key, columns))
        rows.need(not any([has_all(key, other) or has_all(other, key) for other in keys]))
        keys.append(key)
        rows.need(len(keys) <= MOST_KEYS)
    return keys


def are_different(words, columns):
    """Tell whether words are columns, none of them twice."""
    return len(set(words)) == len(words) and has_all(columns, words)


def has_all(columns, others):
    """Tell whether all the others are among some columns."""
    return all([other in columns for other in others])


def read_references(rows, table, above):
    """Read the references of a table that has none yet, below the tables above it."""
    refers = []
    while rows.begins("  ref ") or rows.begins("  optional "):
        refer = read_reference(rows, table, above)
        taken = [column for other in refers for column in other[0]]
        rows.need(not any([column in taken for column in refer[0]]))
        refers.append(refer)
        rows.need(len(refers) <= MOST_REFERENCES)
    return refers


def read_reference(rows, table, above):
    """Read one reference of a table, whatever its other references are."""
    required = rows.begins("  ref ")
    words = rows.words("  ref " if required else "  optional ")
    rows.need(len(words) >= 3 and words[-2] == "->")
    columns = tuple(words[:-2])
    targets = list(above) if required else [*above, table]
    found = [target for target in targets if target.name == words[-1]]
    rows.need(len(found) == 1 and len(found[0].unique[0]) == len(columns))
    rows.need(are_different(columns, table.columns))
    if not required:
        rows.need(not any([column in key for key in table.unique for column in columns]))
    return (columns, words[-1], required)
