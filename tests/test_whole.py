"""What holds over the whole program: facts that join its parts, and what no function does."""

import copy
import random
import unittest

from countonce.answers import (adds_up, canonical_database, counts_once, is_loss_answer, is_once_answer, is_sum_answer,
                               loses_none, row_at)
from countonce.classes import is_empty, same_class, same_steps
from countonce.databases import is_database, is_valid, violations
from countonce.determined import determined, determines, is_determined_answer
from countonce.dropping import can_drop, is_drop_answer, smaller, without
from countonce.errors import TooManyColumns
from countonce.example import is_example, one_example
from countonce.guards import Guarded
from countonce.ledgers import Ledger
from countonce.lists import greatest_lists, least_lists
from countonce.live import Live
from countonce.often import equally_often, is_often_answer
from countonce.results import counted, joined, matches, pairs, plain_sum, total
from countonce.schemas import Schema
from countonce.within import is_within_answer, same_pairs, within
from tests.many import changed, some_cases, some_database, some_report, some_schema
from tests.plain import columns_of
from tests.samples import ANY_VALUES, SMALL, exact, report_of
from tests.twists import some_pairs, twisted


def spare_aliases(report):
    return [alias for alias, _ in report.aliases[1:] if alias not in dict(report.groups)]


def ordinary(call, *values):
    """Return what a call returns, or the name of its error."""
    try:
        return call(*values)
    except TooManyColumns as error:
        return f"too many: {error.count}"


class FactsTest(unittest.TestCase):
    """The facts of point 32, by what the program returns."""

    def test_dropping_is_being_within(self):
        seen = {}
        for rng, report in some_cases("dropping", 300):
            for alias in spare_aliases(report):
                rest = without(report, alias)
                self.assertEqual(rest.name, report.name)
                drop, found = can_drop(report, alias), within(rest, report)
                self.assertEqual(drop[0], found[0])
                # The report is always within the one without the alias.
                self.assertEqual(within(report, rest)[0], "yes")
                self.assertIs(same_pairs(rest, report), drop[0] == "yes")
                pool = [*drop, *found, "m", ("m", ()), (0,), *ANY_VALUES]
                for value in [drop, found] + [changed(rng, rng.choice([drop, found]), pool) for _ in range(6)]:
                    expected = is_within_answer(rest, report, value)
                    self.assertIs(is_drop_answer(report, alias, value), expected)
                    seen[drop[0], expected] = seen.get((drop[0], expected), 0) + 1
        self.assertTrue(len(seen) == 4 and min(seen.values()) > 100, seen)

    def test_the_smaller_report_has_the_same_pairs(self):
        for _, report in some_cases("smaller pairs", 150):
            left = smaller(report)
            self.assertIs(same_pairs(left, report), True)
            for alias in spare_aliases(left):
                self.assertEqual(within(without(left, alias), left)[0], "no")

    def test_reports_in_a_row(self):
        seen = {}
        for rng, report, other in some_pairs("row", 400):
            third = twisted(rng, rng.choice([report, other]), 3)
            for one, two, three in ((report, other, third), (third, report, other), (other, third, report)):
                if within(one, two)[0] == "yes" and within(two, three)[0] == "yes":
                    self.assertEqual(within(one, three)[0], "yes")
                    often = [equally_often(one, two)[0], equally_often(two, three)[0], equally_often(one, three)[0]]
                    self.assertNotIn(sorted(often), [["no", "yes", "yes"]])
                    seen[often[2]] = seen.get(often[2], 0) + 1
        self.assertTrue(min(seen["yes"], seen["no"]) > 50, seen)

    def test_counting_once_by_determined_columns(self):
        for _, report in some_cases("once", 300):
            own = [column for column in columns_of(report) if column[0] == report.aliases[0][0]]
            told = determined(report, [*own, *report.groups])
            self.assertEqual(counts_once(report)[0] == "yes", told == columns_of(report))
            self.assertEqual(adds_up(report)[0] == "yes", set(report.groups) <= set(determined(report, own)))

    def test_ledgers_of_equally_frequent_reports(self):
        seen = 0
        for rng, report, other in some_pairs("ledgers", 150):
            live = Live(report.schema)
            ledgers = [Ledger(live, report), Ledger(live, other)]
            same = equally_often(report, other)[0] == "yes"
            for _ in range(3):
                now = [(table.name, row) for table in report.schema.tables for row in live.rows(table.name)]
                new = [(name, row) for name, rows in some_database(rng, report.schema).items() for row in rows]
                live.apply(new, now)
                one, two = [ledger.told() for ledger in ledgers]
                self.assertTrue(one == two or not same)
                seen += same and one != {}
        self.assertGreater(seen, 50)

    def test_the_main_fact(self):
        # If all three answers are yes, the joined results of a live database add up to the plain sum.
        seen = 0
        for rng, report in some_cases("main", 400, 3, 3):
            if all(answer(report)[0] == "yes" for answer in (counts_once, adds_up, loses_none)):
                live = Live(report.schema)
                number = live.add_report(report, once=True, sums=True, none_lost=True)
                for _ in range(3):
                    now = [(table.name, row) for table in report.schema.tables for row in live.rows(table.name)]
                    new = [(name, row) for name, rows in some_database(rng, report.schema).items() for row in rows]
                    live.apply(new, now)
                    database = {table.name: live.rows(table.name) for table in report.schema.tables}
                    self.assertEqual(sum(live.result(number).values()), plain_sum(report, database))
                    seen += plain_sum(report, database) > 0
        self.assertGreater(seen, 30)


def calls_of(report, other, database, columns):
    """Return many calls that are about reports, a database and a list of columns, each with its arguments."""
    column = columns[0] if columns else columns_of(report)[0]
    found = [(call, report) for call in (
        is_empty, same_steps, counts_once, adds_up, loses_none, smaller, least_lists, greatest_lists, one_example)]
    found += [(call, report, database) for call in (joined, counted, total, plain_sum, pairs)]
    found += [(lambda r, d: list(matches(r, d)), report, database), (is_database, report.schema, database),
              (is_valid, report.schema, database), (lambda s, d: list(violations(s, d)), report.schema, database),
              (determined, report, columns), (determines, report, columns, column), (within, report, other),
              (same_class, report, column, columns_of(report)[-1]), (least_lists, report, column),
              (greatest_lists, report, column), (same_pairs, report, other), (equally_often, report, other)]
    found += [(can_drop, report, alias) for alias in spare_aliases(report)]
    return found


def judges_of(report, other, columns):
    """Return tuples (function that answers, function that judges) of one or no argument."""
    column = columns_of(report)[0]
    found = [(lambda: counts_once(report), lambda value: is_once_answer(report, value)),
             (lambda: adds_up(report), lambda value: is_sum_answer(report, value)),
             (lambda: loses_none(report), lambda value: is_loss_answer(report, value)),
             (lambda: determines(report, columns, column),
              lambda value: is_determined_answer(report, columns, column, value)),
             (lambda: one_example(report), lambda value: is_example(report, value)),
             (lambda: within(report, other), lambda value: is_within_answer(report, other, value)),
             (lambda: equally_often(report, other), lambda value: is_often_answer(report, other, value))]
    for alias in spare_aliases(report):
        found.append((lambda alias=alias: can_drop(report, alias),
                      lambda value, alias=alias: is_drop_answer(report, alias, value)))
    return found


def turned(value):
    """Return a value in which the names in all dicts come in the opposite order."""
    if type(value) is dict:
        return {key: turned(value[key]) for key in reversed(list(value))}
    if type(value) in (list, tuple):
        return type(value)(turned(part) for part in value)
    return value


class WholeTest(unittest.TestCase):
    def cases(self, seed, count):
        for rng, report, other in some_pairs(seed, count):
            columns = rng.sample(columns_of(report), min(2, len(columns_of(report))))
            yield rng, report, other, some_database(rng, report.schema), columns

    def state(self, *reports):
        """Return all that a report tells of itself, and its schema."""
        return [[str(r), str(r.schema), r.name, r.aliases, r.links, r.filters, r.groups, r.measure,
                 [(t.name, t.columns, t.unique, t.refers) for t in r.schema.tables]] for r in reports]

    def test_nothing_is_changed_and_all_is_new(self):
        for rng, report, other, database, columns in self.cases("kept", 120):
            state, before = self.state(report, other), exact([database, columns])
            for call, *values in calls_of(report, other, database, columns):
                first = ordinary(call, *values)
                copied = copy.deepcopy(first) if type(first) in (list, tuple, dict) else first
                self.spoil(first)
                again = ordinary(call, *values)
                self.assertTrue(again == copied, call)
                self.assertEqual(exact([database, columns]), before)
            self.assertEqual(self.state(report, other), state)

    def spoil(self, value):
        """Change all lists and dicts in a value."""
        for part in value.values() if type(value) is dict else value if type(value) in (list, tuple) else ():
            self.spoil(part)
        if type(value) in (list, dict):
            value.clear()

    def test_the_order_of_names_in_a_database(self):
        for rng, report, other, database, columns in self.cases("names", 120):
            for call, *values in calls_of(report, other, database, columns):
                self.assertTrue(ordinary(call, *values) == ordinary(call, *[
                    turned(value) if value is database else value for value in values]))
            for answer, judge in judges_of(report, other, columns):
                value = ordinary(answer)
                if type(value) is tuple:
                    self.assertIs(judge(value), True)
                    self.assertIs(judge(turned(value)), True)
            self.assertEqual(self.guard_words(report, other, database), self.guard_words(report, other, turned(database)))

    def guard_words(self, report, other, database):
        """Return what becomes of guards for rows that come in some order."""
        found = []
        for word in ("within", "often"):
            guarded = Guarded(report.schema)
            getattr(guarded, f"guard_{word}")(report, other)
            try:
                guarded.apply([(name, row) for name in database for row in database[name]], [])
                found.append("kept")
            except ValueError as error:
                found.append(type(error).__name__)
        return found

    def test_evidence_is_taken_by_its_judge(self):
        seen = {}
        for rng, report, other, database, columns in self.cases("evidence", 250):
            for number, (answer, judge) in enumerate(judges_of(report, other, columns)[:7]):
                value = ordinary(answer)
                if type(value) is tuple:
                    self.assertIs(judge(value), True)
                    key = (number, value[0] if type(value[0]) is str else "")
                    seen[key] = seen.get(key, 0) + 1
        self.assertTrue(len(seen) == 13 and min(seen.values()) > 10, seen)

    def test_a_database_that_is_changed_in_place(self):
        for rng, report, other, database, columns in self.cases("in place", 150):
            for _ in range(3):
                told = [(call, values) for call, *values in calls_of(report, other, database, columns)
                        if any(value is database for value in values)]
                expected = copy.deepcopy(database)
                for call, values in told:
                    self.assertTrue(call(*values) == call(*[
                        expected if value is database else value for value in values]))
                self.assertEqual(is_valid(report.schema, database), not list(violations(report.schema, expected)))
                name = rng.choice(list(database))
                if database[name] and rng.random() < 0.6:
                    del database[name][rng.randrange(len(database[name]))]
                else:
                    database[name] = list(some_database(rng, report.schema)[name])

    def test_answers_that_are_changed_in_place(self):
        report = report_of(SMALL, "from orders o; rows")
        database = {"orders": [(1, 5), (2, 5), (3, 6)], "items": []}
        found = [{"o": row} for row in database["orders"]]
        value = (database, found)
        self.assertIs(is_example(report, value), True)
        one = found.pop()
        self.assertIs(is_example(report, value), False)
        found.append(one)
        self.assertIs(is_example(report, value), True)
        database["orders"][2] = (3, 7)
        self.assertIs(is_example(report, value), False)
        found[2]["o"] = (3, 7)
        self.assertIs(is_example(report, value), True)

    def test_rows_of_a_canonical_database(self):
        report = report_of(SMALL, "from items i; rows")
        database, row = canonical_database(report)
        database["orders"].append((77, 78))
        database["items"].append((77, 1, 1))
        self.assertEqual(row_at(report, turned(database), (77, 1, 1), (0,)), (77, 78))
        self.assertEqual([len(rows) for rows in canonical_database(report)[0].values()], [1, 1])

    def test_schemas_with_the_same_tables_in_another_order(self):
        texts = ["table a\n  column x\n  key x\nend", "table b\n  column x\n  key x\nend"]
        one, two = [Schema.parse("\n".join(rows)) for rows in (texts, texts[::-1])]
        self.assertFalse(one == two)
        self.assertTrue(one == Schema.parse("\n".join(texts)))
        for schema in (one, two):
            self.assertIs(is_database(schema, {"a": [], "b": []}), True)

    def test_the_same_words_again(self):
        for number in range(100):
            rng = random.Random(f"again {number}")
            schema = some_schema(rng, 3)
            report = some_report(rng, schema, 3)
            again = type(report).parse(Schema.parse(str(schema)), str(report))
            for call in (counts_once, adds_up, loses_none, smaller, least_lists, one_example):
                self.assertTrue(ordinary(call, report) == ordinary(call, again))
            self.assertEqual(equally_often(report, again)[0], "yes")


if __name__ == "__main__":
    unittest.main()
