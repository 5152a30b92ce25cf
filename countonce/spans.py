"""Spans: which rows of a valid database are reached from the rows of a match along all references.

Rows are gathered in an integer that has one bit for each of them. A part of the database with all that is reached from
its rows is valid, too, and a match is a match in this part just if the part has its whole span.
"""

from countonce.paths import walk
from countonce.reports import alias_tables
from countonce.results import pair_matches


class Spans:
    """The spans in a valid database."""

    def __init__(self, schema, database):
        self._schema = schema
        self._database = database
        rows = [(table, row) for table in schema.tables for row in database[table.name]]
        self._bits = {(table.name, row): 1 << number for number, (table, row) in enumerate(rows)}
        self._reached = {(table.name, row): self._reach(table, row) for table, row in rows}

    def _reach(self, table, row):
        found = 0
        todo = [(table, row)]
        while todo:
            at, here = todo.pop()
            bit = self._bits[(at.name, here)]
            if not found & bit:
                found = found | bit
                for number in range(len(at.refers)):
                    reached = walk(self._schema, self._database, at, here, (number,))
                    if reached is not None:
                        todo.append(reached)
        return found

    def span(self, report, match):
        """Return the span of a match of a report."""
        tables = alias_tables(report)
        found = 0
        for alias in tables:
            found = found | self._reached[(tables[alias].name, match[alias])]
        return found

    def counts(self, report, row, group):
        """Return a dict from the spans of all matches with a measured row and a group to their numbers."""
        found = {}
        for match in pair_matches(report, self._database, row, group):
            span = self.span(report, match)
            found[span] = found.get(span, 0) + 1
        return found

    def part(self, span):
        """Return the database that has just the rows of a span."""
        bits = self._bits
        return {name: [row for row in self._database[name] if bits[(name, row)] & span] for name in self._database}
