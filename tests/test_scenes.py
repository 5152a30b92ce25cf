"""Many live databases that are changed again and again, beside a plain one that does what the document says."""

import random
import unittest

from countonce.answers import adds_up, counts_once, loses_none
from countonce.errors import (CountError, MissingRow, PresentRow, PromiseBroken, TooMany, TransactionClosed,
                              TransactionOpen, UnknownNumber, UnknownTable, Violation, WrongRow)
from countonce.live import Live
from tests.many import some_database, some_report, some_schema
from tests.plain import keeps_own_filters, plain_group, plain_matches, plain_violations, plain_worth
from tests.samples import exact


def plain_joined(report, database):
    """Return the joined result straight from the words of point 10."""
    sums = {}
    for match in plain_matches(report, database):
        group = plain_group(report, match)
        sums[group] = sums.get(group, 0) + plain_worth(report, match[report.aliases[0][0]])
    return sums


class Plain:
    """A live database, as the words of points 22 and 23 say. Errors are told as lists of a class and its values."""

    def __init__(self, schema):
        self.schema = schema
        self.kept = {table.name: [] for table in schema.tables}
        self.changed = None
        self.reports, self.watches = [], []

    def begin(self):
        if self.changed is not None:
            return [TransactionOpen]
        self.changed = {name: list(rows) for name, rows in self.kept.items()}
        return None

    def change(self, word, table, row):
        """Insert or delete a row."""
        if self.changed is None:
            return [TransactionClosed]
        if table not in self.changed:
            return [UnknownTable, table]
        columns = self.schema.table(table).columns
        right = type(row) is tuple and len(row) == len(columns)
        if not right or not all(c is None or (type(c) is int and 0 <= c <= 10**9) for c in row):
            return [WrongRow, row]
        if word == "insert":
            if row in self.changed[table]:
                return [PresentRow, row]
            self.changed[table].append(row)
        else:
            if row not in self.changed[table]:
                return [MissingRow, row]
            self.changed[table].remove(row)
        return None

    def commit(self):
        if self.changed is None:
            return [TransactionClosed]
        if plain_violations(self.schema, self.changed):
            return [Violation]
        self.kept, self.changed = self.changed, None
        return None

    def rollback(self):
        if self.changed is None:
            return [TransactionClosed]
        self.changed = None
        return None

    def apply(self, inserts, deletes):
        if self.changed is not None:
            return [TransactionOpen]
        self.begin()
        for word, changes in (("delete", deletes), ("insert", inserts)):
            for table, row in changes:
                error = self.change(word, table, row)
                if error is not None:
                    self.changed = None
                    return error
        error = self.commit()
        self.changed = None
        return error

    def add_report(self, report, **wanted):
        if len(self.reports) == 8:
            return [TooMany, 8]
        for name, answer in (("once", counts_once), ("sums", adds_up), ("none_lost", loses_none)):
            if wanted[name] and answer(report)[0] == "no":
                return [PromiseBroken, name]
        self.reports.append((report, wanted))
        return len(self.reports) - 1

    def result(self, number):
        if not 0 <= number < len(self.reports):
            return [UnknownNumber, number]
        return plain_joined(self.reports[number][0], self.kept)

    def watch(self, number):
        if not 0 <= number < len(self.reports):
            return [UnknownNumber, number]
        if len(self.watches) == 8:
            return [TooMany, 8]
        self.watches.append([number, self.result(number)])
        return len(self.watches) - 1

    def changes(self, number):
        if not 0 <= number < len(self.watches):
            return [UnknownNumber, number]
        report, before = self.watches[number]
        now = self.result(report)
        self.watches[number][1] = now
        return sorted(group for group in {*before, *now}
                      if group not in before or group not in now or before[group] != now[group])


def told(call, *values, **named):
    """Return what a call returns, or a list of the class of its error and what this tells."""
    try:
        return call(*values, **named)
    except CountError as error:
        if type(error) is Violation:
            return [Violation]
        if type(error) is PromiseBroken:
            return [PromiseBroken, error.promise]
        return [type(error), *vars(error).values()]


class ScenesTest(unittest.TestCase):
    def test_scenes(self):
        self.seen = {}
        for number in range(150):
            rng = random.Random(f"scenes {number}")
            schema = some_schema(rng, 3)
            live, plain = Live(schema), Plain(schema)
            transaction = None
            # A database that is valid gives rows that go well together.
            pool = [(name, row) for name, rows in some_database(rng, schema).items() for row in rows]
            for _ in range(80):
                transaction = self.step(rng, live, plain, transaction, pool)
                self.compare(live, plain)
        self.assertGreater(min(self.seen.get(key, 0) for key in (
            TransactionOpen, TransactionClosed, UnknownTable, WrongRow, PresentRow, MissingRow, Violation, TooMany,
            PromiseBroken, UnknownNumber, "commit", "apply", "changes")), 20, self.seen)

    def note(self, word, found):
        """Count what has happened."""
        key = found[0] if type(found) is list and found and type(found[0]) is type else word
        if found != [] or word != "changes":
            self.seen[key] = self.seen.get(key, 0) + 1

    def compare(self, live, plain):
        """Check the committed rows, the open transaction and what promises say."""
        for name, rows in plain.kept.items():
            expected = sorted(rows, key=lambda row: [(cell is not None, cell or 0) for cell in row])
            self.assertEqual(live.rows(name), expected)
        self.assertEqual(live.transaction is None, plain.changed is None)
        for report, wanted in plain.reports:
            if all(wanted.values()):
                rows = [row for row in plain.kept[report.aliases[0][1]] if keeps_own_filters(report, row)]
                total = sum(plain_worth(report, row) for row in rows)
                self.assertEqual(sum(plain_joined(report, plain.kept).values()), total)

    def some_change(self, rng, schema, plain, pool):
        """Return a table and a row, mostly ones with which much can be done."""
        present = [(name, row) for name, rows in (plain.changed or plain.kept).items() for row in rows]
        table, row = rng.choice((pool + present) or [(schema.tables[0].name, (0,) * len(schema.tables[0].columns))])
        chance = rng.random()
        if chance < 0.05:
            table = rng.choice(["x", "", "zz"])
        elif chance < 0.1:
            row = rng.choice([row[1:], row + (1,), list(row), (*row[1:], True), (*row[1:], -1), None, (*row[1:], "a")])
        elif chance < 0.3:
            row = tuple(rng.choice([cell, 0, 1, None, cell]) for cell in row)
        return table, row

    def step(self, rng, live, plain, transaction, pool):
        """Do one thing in both databases; return the last transaction."""
        word = rng.choice(["begin", "insert", "insert", "insert", "delete", "commit", "commit", "rollback", "apply",
                           "apply", "apply", "all", "report", "report", "report", "watch", "watch", "watch", "result",
                           "changes", "changes", "changes"])
        number = rng.randint(*rng.choice([(0, 0), (0, 1), (0, 3), (-1, 8)]))
        if word == "begin":
            found, expected = told(live.begin), plain.begin()
            if expected is None:
                return found
        elif word in ("insert", "delete", "commit", "rollback"):
            if transaction is None:
                return None
            values = [] if word in ("commit", "rollback") else self.some_change(rng, plain.schema, plain, pool)
            found = told(getattr(transaction, word), *values)
            expected = getattr(plain, word)() if not values else plain.change(word, *values)
        elif word in ("apply", "all"):
            inserts = [self.some_change(rng, plain.schema, plain, pool) for _ in range(rng.choice([0, 1, 1, 2]))]
            deletes = [self.some_change(rng, plain.schema, plain, pool) for _ in range(rng.choice([0, 0, 0, 1, 2]))]
            if word == "all":
                inserts, deletes = pool, [(name, row) for name, rows in plain.kept.items() for row in rows]
            before = exact([inserts, deletes])
            found, expected = told(live.apply, inserts, deletes), plain.apply(inserts, deletes)
            self.assertEqual(exact([inserts, deletes]), before)
        elif word == "report":
            report = some_report(rng, plain.schema, 2)
            wanted = {name: rng.random() < 0.5 for name in ("once", "sums", "none_lost")}
            found, expected = told(live.add_report, report, **wanted), plain.add_report(report, **wanted)
        else:
            found, expected = told(getattr(live, word), number), getattr(plain, word)(number)
        self.assertEqual(exact(found), exact(expected))
        self.note(word, expected)
        return transaction


if __name__ == "__main__":
    unittest.main()
