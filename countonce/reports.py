"""Reports: aliases, links, filters, group columns and a measure, and the text form of all this."""

from countonce.schemas import optional_columns
from countonce.texts import Rows, is_name, is_number

MOST_ALIASES = 4
MOST_LINKS = 20
MOST_FILTERS = 5
MOST_GROUPS = 3


class Report:
    """A report of a schema. A column of it is a tuple (alias, column). It never changes."""

    def __init__(self, schema, name, aliases, links, filters, groups, measure):
        self.schema = schema
        self.name = name
        self.aliases = tuple(aliases)
        self.links = tuple(links)
        self.filters = tuple(filters)
        self.groups = tuple(groups)
        self.measure = measure
        self._text = "\n".join(report_rows(self))

    @classmethod
    def parse(cls, schema, text):
        """Return the report of a text form; raise InvalidText(row) if it is none."""
        rows = Rows(text)
        name = rows.new_name("report ", [])
        aliases = read_aliases(rows, schema)
        tables = {alias: schema.table(table) for alias, table in aliases}
        links = read_links(rows, tables)
        filters = read_filters(rows, tables)
        groups = read_groups(rows, tables)
        measure = read_measure(rows, schema.table(aliases[0][1]))
        rows.exactly("end")
        rows.finish()
        return cls(schema, name, aliases, links, filters, groups, measure)

    def __str__(self):
        return str(self._text)

    def __eq__(self, other):
        return isinstance(other, Report) and self.schema == other.schema and self._text == other._text


def alias_tables(report):
    """Return a dict from the aliases of a report, in their order, to their tables."""
    return {alias: report.schema.table(name) for alias, name in report.aliases}


def all_columns(report):
    """Return the list of all columns of a report, alias by alias."""
    tables = alias_tables(report)
    return [(alias, name) for alias in tables for name in tables[alias].columns]


def measured_columns(report):
    """Return the list of the columns of a report's measured alias."""
    return [column for column in all_columns(report) if column[0] == report.aliases[0][0]]


def tested_columns(report):
    """Return the list of the columns that stand in a link or a filter, as often as they do."""
    linked = [column for link in report.links for column in link]
    return linked + [column for column, _ in report.filters]


def filter_values(report):
    """Return the list of the values of a report's filters, as often as they occur."""
    return [value for _, value in report.filters]


def report_rows(report):
    """Return the rows of a report's text form."""
    rows = [f"report {report.name}"]
    for number, (alias, table) in enumerate(report.aliases):
        word = "join" if number > 0 else "from"
        rows.append(f"  {word} {table} {alias}")
    for column, other in report.links:
        rows.append(f"  link {column_word(column)} = {column_word(other)}")
    for column, value in report.filters:
        rows.append(f"  where {column_word(column)} = {value}")
    for column in report.groups:
        rows.append(f"  by {column_word(column)}")
    rows.append("  rows" if report.measure is None else f"  sum {report.measure}")
    rows.append("end")
    return rows


def column_word(column):
    """Return a column as it is written in a text."""
    alias, name = column
    return f"{alias}.{name}"


def column_of(word, tables):
    """Return the column that a word of a text writes, or None; tables has the table of each alias."""
    alias, _, name = word.partition(".")
    if alias in tables and name in tables[alias].columns:
        return (alias, name)
    return None


def read_aliases(rows, schema):
    """Read the aliases of a report, the measured one first."""
    names = [table.name for table in schema.tables]
    aliases = []
    while not aliases or rows.begins("  join "):
        words = rows.words("  join " if aliases else "  from ")
        rows.need(len(words) == 2 and words[0] in names)
        rows.need(is_name(words[1]) and words[1] not in [alias for alias, _ in aliases])
        aliases.append((words[1], words[0]))
        rows.need(len(aliases) <= MOST_ALIASES)
    return aliases


def read_links(rows, tables):
    """Read the links of a report."""
    links = []
    while rows.begins("  link "):
        words = rows.words("  link ")
        rows.need(len(words) == 3 and words[1] == "=")
        link = (column_of(words[0], tables), column_of(words[2], tables))
        rows.need(None not in link)
        links.append(link)
        rows.need(len(links) <= MOST_LINKS)
    return links


def read_filters(rows, tables):
    """Read the filters of a report."""
    filters = []
    while rows.begins("  where "):
        words = rows.words("  where ")
        rows.need(len(words) == 3 and words[1] == "=" and is_number(words[2]))
        column = column_of(words[0], tables)
        rows.need(column is not None)
        filters.append((column, int(words[2])))
        rows.need(len(filters) <= MOST_FILTERS)
    return filters


def read_groups(rows, tables):
    """Read the group columns of a report."""
    groups = []
    while rows.begins("  by "):
        words = rows.words("  by ")
        column = column_of(words[0], tables)
        rows.need(len(words) == 1 and column is not None and column not in groups)
        rows.need(column[1] not in optional_columns(tables[column[0]]))
        groups.append(column)
        rows.need(len(groups) <= MOST_GROUPS)
    return groups


def read_measure(rows, table):
    """Read the measure of a report, a column of the measured table, or None if rows are counted."""
    if not rows.begins("  sum "):
        rows.exactly("  rows")
        return None
    words = rows.words("  sum ")
    rows.need(len(words) == 1 and words[0] in table.columns)
    rows.need(words[0] not in optional_columns(table))
    return words[0]
