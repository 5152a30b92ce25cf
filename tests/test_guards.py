import random
import unittest

from countonce.determined import determines
from countonce.errors import (CountError, GuardBroken, MissingRow, OtherReports, PresentRow, TooMany, UnknownColumn,
                              UnknownTable, Violation, WrongRow)
from countonce.guards import Guarded
from countonce.often import equally_often
from countonce.reports import Report
from countonce.schemas import Schema
from countonce.within import within
from tests.many import some_cases, some_database, some_report, some_schema
from tests.plain import cells_of, columns_of, is_match_in, is_plain_database, plain_matches, plain_pair
from tests.samples import ANY_VALUES, SHOP, SMALL, TREE, exact, report_of
from tests.test_determined import NO_COLUMNS, SALES
from tests.test_scenes import Plain
from tests.twists import some_pairs, twisted

LINES = "from orders o; join items i; link i.order = o.id; "


def inserts_of(database):
    """Return the rows of a database as a list of tuples (table, row)."""
    return [(name, row) for name, rows in database.items() for row in rows]


def breaks(guard, database, found):
    """Tell whether what is found shows that a guard, a tuple (word, reports and columns ..), does not hold."""
    word, report, *rest = guard
    if word == "determined":
        if type(found) is not tuple or len(found) != 2 or not all(is_match_in(report, database, m) for m in found):
            return False
        one, two = [cells_of(report, match) for match in found]
        return all(one[c] == two[c] for c in rest[0]) and one[rest[1]] != two[rest[1]]
    many = [[plain_pair(r, match) for match in plain_matches(r, database)].count(found) for r in (report, rest[0])]
    return many[0] > 0 == many[1] if word == "within" else many[0] != many[1]


def holds(guard, database):
    """Tell whether a guard holds for the rows of a database, straight from the words of point 33."""
    word, report, *rest = guard
    if word == "determined":
        cells = [cells_of(report, match) for match in plain_matches(report, database)]
        told = {}
        for one in cells:
            told.setdefault(tuple(one[c] for c in rest[0]), set()).add(one[rest[1]])
        return all(len(found) == 1 for found in told.values())
    one = [repr(plain_pair(report, match)) for match in plain_matches(report, database)]
    two = [repr(plain_pair(rest[0], match)) for match in plain_matches(rest[0], database)]
    return set(one) <= set(two) if word == "within" else sorted(one) == sorted(two)


class GuardCase(unittest.TestCase):
    def assert_raises(self, error, told, call, *values, **named):
        with self.assertRaises(error) as caught:
            call(*values, **named)
        self.assertIs(type(caught.exception), error)
        self.assertEqual(exact(list(vars(caught.exception).values())), exact(told))

    def assert_broken(self, number, guard, database, call, *values):
        """Check that a call raises GuardBroken with what breaks a guard in a database."""
        with self.assertRaises(GuardBroken) as caught:
            call(*values)
        self.assertEqual(caught.exception.number, number)
        self.assertTrue(breaks(guard, database, caught.exception.found), caught.exception.found)

    def guarded(self, rows=(), schema=SMALL):
        guarded = Guarded(Schema.parse(schema))
        guarded.apply(list(rows), [])
        return guarded

    def add(self, guarded, guard):
        """Add a guard to a guarded database and return its number."""
        return getattr(guarded, f"guard_{guard[0]}")(*guard[1:])


class ExamplesTest(GuardCase):
    def test_example(self):
        schema = Schema.parse(SMALL)
        report = Report.parse(schema, "report all\n  from orders o\n  rows\nend")
        guarded = Guarded(schema)
        found = [guarded.guard_determined(report, [("o", "customer")], ("o", "id")),
                 guarded.guard_within(report, report)]
        self.assertIsNone(guarded.apply([("orders", (2, 6)), ("orders", (1, 5))], []))
        self.assertEqual(found + [len(guarded), guarded.rows("orders")], [0, 1, 2, [(1, 5), (2, 6)]])


class RowsTest(GuardCase):
    def test_rows(self):
        guarded = Guarded(schema=Schema.parse(TREE))
        self.assertEqual([guarded.rows("a"), len(guarded)], [[], 0])
        guarded.apply([("a", (10, None, 3)), ("a", (3, 10, None)), ("a", (9, None, None))], [])
        self.assertEqual(guarded.rows(table="a"), [(3, 10, None), (9, None, None), (10, None, 3)])
        guarded.rows("a").clear()
        guarded.apply(deletes=[("a", (9, None, None))], inserts=[])
        self.assertEqual(guarded.rows("a"), [(3, 10, None), (10, None, 3)])
        for name in ("", "b", "A"):
            self.assert_raises(UnknownTable, [name], guarded.rows, name)

    def test_errors_of_changes(self):
        guarded = self.guarded([("orders", (1, 5)), ("orders", (2, 6)), ("items", (1, 1, 20))])
        cases = [
            (UnknownTable, ["x"], [("x", "no row")], [("orders", (2, 6))]),
            (WrongRow, [(1,)], [("x", (1,))], [("orders", (1,))]),
            (WrongRow, [(True, 5)], [("orders", (True, 5))], []),
            (WrongRow, [(1, True)], [], [("orders", (1, True))]),
            (MissingRow, [(1, 6)], [("orders", (2, 6))], [("orders", (2, 6)), ("orders", (1, 6)), ("x", (1,))]),
            (MissingRow, [(2, 6)], [], [("orders", (2, 6)), ("orders", (2, 6))]),
            (PresentRow, [(1, 5)], [("orders", (3, 5)), ("orders", (1, 5)), ("x", (1,))], [("orders", (2, 6))]),
            (PresentRow, [(3, 5)], [("orders", (3, 5)), ("orders", (3, 5))], []),
            (Violation, [("reference", "items", (1, 1, 20), 0)], [("orders", (3, 5))], [("orders", (1, 5))]),
            (Violation, [("cell", "orders", (3, None))], [("orders", (3, None))], []),
        ]
        for value in ANY_VALUES:
            if value != (1, 5):
                cases += [(WrongRow, [value], [("orders", value)], []), (WrongRow, [value], [], [("orders", value)])]
        for error, told, inserts, deletes in cases:
            before = exact([inserts, deletes])
            self.assert_raises(error, told, guarded.apply, inserts, deletes)
            self.assertEqual(exact([inserts, deletes]), before)
            self.assertEqual([guarded.rows("orders"), guarded.rows("items")], [[(1, 5), (2, 6)], [(1, 1, 20)]])

    def test_keys(self):
        guarded = self.guarded([("orders", (1, 5))])
        with self.assertRaises(Violation) as caught:
            guarded.apply([("orders", (1, 6))], [])
        self.assertIn(caught.exception.found, [("key", "orders", (1, 5), (1, 6), ("id",)),
                                               ("key", "orders", (1, 6), (1, 5), ("id",))])

    def test_one_list_for_both(self):
        guarded = self.guarded([("orders", (1, 5)), ("items", (1, 1, 20))])
        both = [("orders", (1, 5)), ("items", (1, 1, 20))]
        guarded.apply(both, both)
        self.assertEqual(both, [("orders", (1, 5)), ("items", (1, 1, 20))])
        self.assertEqual([guarded.rows("orders"), guarded.rows("items")], [[(1, 5)], [(1, 1, 20)]])
        both.clear()
        guarded.apply(both, both)
        self.assertEqual([guarded.rows("orders"), guarded.rows("items")], [[(1, 5)], [(1, 1, 20)]])


class GuardsTest(GuardCase):
    def setUp(self):
        self.all = report_of(SMALL, "from orders o; rows")
        self.lines = report_of(SMALL, LINES + "rows")
        self.twice = report_of(SMALL, "from orders o; join items i; join items j; link i.order = o.id; "
                                      "link j.order = o.id; rows")
        self.customer = ("determined", self.all, [("o", "customer")], ("o", "id"))

    def test_determined(self):
        guarded = self.guarded([("orders", (1, 5)), ("orders", (2, 6))])
        self.assertEqual(self.add(guarded, self.customer), 0)
        rows = {"orders": [(1, 5), (2, 6), (3, 5)], "items": []}
        self.assert_broken(0, self.customer, rows, guarded.apply, [("orders", (3, 5))], [])
        self.assertEqual(guarded.rows("orders"), [(1, 5), (2, 6)])
        guarded.apply([("orders", (3, 5))], [("orders", (1, 5))])
        self.assertEqual(guarded.rows("orders"), [(2, 6), (3, 5)])

    def test_within(self):
        guarded = self.guarded([("orders", (1, 5)), ("items", (1, 1, 20))])
        guard = ("within", self.all, self.lines)
        self.assertEqual(self.add(guarded, guard), 0)
        with self.assertRaises(GuardBroken) as caught:
            guarded.apply([("orders", (2, 6))], [])
        self.assertEqual([caught.exception.number, caught.exception.found], [0, ((), (2, 6))])
        guarded.apply([("orders", (2, 6)), ("items", (2, 1, 20)), ("items", (2, 2, 20))], [])
        with self.assertRaises(GuardBroken) as caught:
            guarded.apply([], [("items", (1, 1, 20))])
        self.assertEqual([caught.exception.number, caught.exception.found], [0, ((), (1, 5))])
        guarded.apply([], [("items", (2, 1, 20))])
        self.assertEqual(guarded.rows("items"), [(1, 1, 20), (2, 2, 20)])

    def test_often(self):
        guarded = self.guarded([("orders", (1, 5)), ("items", (1, 1, 20))])
        self.assertEqual(guarded.guard_often(self.lines, self.twice), 0)
        self.assertEqual(guarded.guard_often(other=self.all, report=self.lines), 1)
        for inserts in ([("items", (1, 2, 30))], [("items", (1, 2, 30)), ("items", (1, 3, 30))]):
            with self.assertRaises(GuardBroken) as caught:
                guarded.apply(inserts, [])
            self.assertEqual([caught.exception.number, caught.exception.found], [0, ((), (1, 5))])
        with self.assertRaises(GuardBroken) as caught:
            guarded.apply([("orders", (2, 6))], [])
        self.assertEqual([caught.exception.number, caught.exception.found], [1, ((), (2, 6))])
        with self.assertRaises(GuardBroken) as caught:
            guarded.apply([], [("items", (1, 1, 20))])
        self.assertEqual([caught.exception.number, caught.exception.found], [1, ((), (1, 5))])
        guarded.apply([("items", (1, 2, 30))], [("items", (1, 1, 20))])

    def test_guards_that_do_not_hold_are_not_added(self):
        rows = [("orders", (1, 5)), ("orders", (2, 5)), ("items", (1, 1, 20)), ("items", (1, 2, 20))]
        guarded = self.guarded(rows)
        database = {"orders": [(1, 5), (2, 5)], "items": [(1, 1, 20), (1, 2, 20)]}
        wrong = [self.customer, ("within", self.all, self.lines), ("often", self.lines, self.twice),
                 ("often", self.all, self.lines), ("determined", self.lines, [("i", "order")], ("i", "line")),
                 ("determined", self.all, [], ("o", "id"))]
        for guard in wrong:
            self.assert_broken(0, guard, database, self.add, guarded, guard)
            self.assertEqual(len(guarded), 0)
        self.assertEqual(self.add(guarded, ("within", self.lines, self.all)), 0)
        for guard in wrong:
            self.assert_broken(1, guard, database, self.add, guarded, guard)
        self.assertEqual(self.add(guarded, ("determined", self.all, [("o", "id")], ("o", "customer"))), 1)
        self.assertEqual(len(guarded), 2)
        # What was refused guards nothing.
        guarded.apply([("orders", (3, 5))], [])

    def test_the_first_of_two_broken_guards(self):
        guarded = self.guarded()
        self.assertEqual(self.add(guarded, ("within", self.lines, self.all)), 0)
        self.assertEqual(self.add(guarded, ("often", self.lines, self.all)), 1)
        self.assertEqual(self.add(guarded, self.customer), 2)
        self.assertEqual(self.add(guarded, ("within", self.all, self.lines)), 3)
        database = {"orders": [(1, 5), (2, 5)], "items": []}
        self.assert_broken(1, ("often", self.lines, self.all), database, guarded.apply,
                           [("orders", (1, 5)), ("orders", (2, 5))], [])
        rows = [("orders", (1, 5)), ("orders", (2, 5)), ("items", (1, 1, 1)), ("items", (2, 1, 1))]
        database = {"orders": [(1, 5), (2, 5)], "items": [(1, 1, 1), (2, 1, 1)]}
        self.assert_broken(2, self.customer, database, guarded.apply, rows, [])
        self.assertEqual([guarded.rows("orders"), guarded.rows("items"), len(guarded)], [[], [], 4])

    def test_a_violation_comes_ahead_of_a_broken_guard(self):
        guarded = self.guarded([("orders", (1, 5))])
        self.add(guarded, self.customer)
        self.assert_raises(Violation, [("reference", "items", (7, 1, 1), 0)], guarded.apply,
                           [("orders", (2, 5)), ("items", (7, 1, 1))], [])
        self.assert_raises(PresentRow, [(1, 5)], guarded.apply, [("orders", (2, 5)), ("orders", (1, 5))], [])
        self.assert_raises(WrongRow, [(2,)], guarded.apply, [("orders", (2, 5)), ("orders", (2,))], [])
        self.assertEqual(guarded.rows("orders"), [(1, 5)])

    def test_rows_in_between_are_not_asked(self):
        # Only the rows after all changes count: those in between would break the guard.
        guarded = self.guarded([("orders", (1, 5)), ("items", (1, 1, 20))])
        self.add(guarded, ("within", self.all, self.lines))
        guarded.apply([("orders", (2, 5)), ("items", (2, 2, 2))], [("items", (1, 1, 20)), ("orders", (1, 5))])
        self.assertEqual([guarded.rows("orders"), guarded.rows("items")], [[(2, 5)], [(2, 2, 2)]])

    def test_eight_guards_and_one_more(self):
        guarded = self.guarded([("orders", (1, 5)), ("orders", (2, 5))])
        for number in range(8):
            self.assertEqual(guarded.guard_within(self.lines, self.all), number)
        # With eight guards, it does not matter whether the guard holds.
        for guard in (("within", self.lines, self.all), ("often", self.lines, self.all), self.customer,
                      ("often", self.all, self.all), ("determined", self.all, [("o", "id")], ("o", "id"))):
            self.assert_raises(TooMany, [8], self.add, guarded, guard)
            self.assertEqual(len(guarded), 8)
        self.assert_raises(UnknownColumn, ["x"], guarded.guard_determined, self.all, ["x"], ("o", "id"))
        other = report_of(SMALL, "from items i; rows")
        self.assert_raises(OtherReports, [], guarded.guard_within, self.all, other)
        self.assert_raises(OtherReports, [], guarded.guard_often, other, self.all)
        guarded.apply([("orders", (3, 5))], [])

    def test_the_eighth_guard_guards(self):
        guarded = self.guarded()
        for _ in range(7):
            guarded.guard_within(self.lines, self.all)
        self.assertEqual(self.add(guarded, self.customer), 7)
        database = {"orders": [(1, 5), (2, 5)], "items": []}
        self.assert_broken(7, self.customer, database, guarded.apply, inserts_of(database), [])

    def test_unknown_columns(self):
        guarded = self.guarded([("orders", (1, 5)), ("items", (1, 1, 20)), ("items", (1, 2, 20))])
        report = report_of(SMALL, SALES)
        for value in NO_COLUMNS:
            for columns, column in (([value], ("i", "line")), ([("i", "price"), value], "x"), ([value, "x"], value),
                                    ([("i", "price")], value), ([], value)):
                before = exact(columns)
                self.assert_raises(UnknownColumn, [value], guarded.guard_determined, report, columns, column)
                self.assertEqual(exact(columns), before)
        self.assertEqual(len(guarded), 0)

    def test_other_reports(self):
        guarded = self.guarded([("orders", (1, 5))])
        for other in (report_of(SMALL, "from items i; rows"), report_of(SMALL, "from orders o; by o.id; rows"),
                      report_of(SMALL.replace("price", "cost"), "from orders o; rows")):
            for one, two in ((self.all, other), (other, self.all)):
                self.assert_raises(OtherReports, [], guarded.guard_within, one, two)
                self.assert_raises(OtherReports, [], guarded.guard_often, one, two)
        self.assertEqual(len(guarded), 0)

    def test_a_list_that_is_changed_later(self):
        guarded = self.guarded([("orders", (1, 5))])
        columns = [("o", "customer")]
        guarded.guard_determined(self.all, columns, ("o", "id"))
        self.assertEqual(columns, [("o", "customer")])
        columns.append(("o", "id"))
        with self.assertRaises(GuardBroken):
            guarded.apply([("orders", (2, 5))], [])
        columns.clear()
        guarded.apply([("orders", (2, 6))], [])

    def test_parameters_by_name(self):
        guarded = self.guarded()
        self.assertEqual(guarded.guard_determined(column=("o", "id"), columns=[("o", "id")], report=self.all), 0)
        self.assertEqual(guarded.guard_within(other=self.all, report=self.lines), 1)
        self.assertEqual(guarded.guard_often(other=self.all, report=self.all), 2)
        # These are not exchanged.
        guarded.apply([("orders", (1, 5))], [])

    def test_none_agrees_with_none(self):
        report = report_of(SHOP, "from orders o; rows")
        guarded = self.guarded([("clients", (1, 1)), ("orders", (1, 1, None))], SHOP)
        guard = ("determined", report, [("o", "note")], ("o", "id"))
        self.add(guarded, guard)
        database = {"clients": [(1, 1)], "orders": [(1, 1, None), (2, 1, None)], "items": []}
        self.assert_broken(0, guard, database, guarded.apply, [("orders", (2, 1, None))], [])
        guarded.apply([("orders", (2, 1, 1)), ("orders", (3, 1, 2))], [])
        guarded = self.guarded([("clients", (1, 1)), ("orders", (1, 1, None)), ("orders", (2, 1, None))], SHOP)
        self.assertEqual(guarded.guard_determined(report, [], ("o", "note")), 0)

    def test_databases_know_nothing_of_one_another(self):
        schema = Schema.parse(SMALL)
        one, two = Guarded(schema), Guarded(schema)
        one.guard_often(self.all, self.lines)
        two.apply([("orders", (1, 5))], [])
        self.assertEqual([len(one), len(two), one.rows("orders")], [1, 0, []])


class ManyTest(GuardCase):
    def some_guard(self, rng, report):
        """Return any guard of a report."""
        word = rng.choice(["determined", "within", "often"])
        if word == "determined":
            columns = columns_of(report)
            return word, report, rng.sample(columns, rng.randint(0, min(3, len(columns)))), rng.choice(columns)
        other = twisted(rng, report, 3)
        return (word, report, other) if rng.random() < 0.5 else (word, other, report)

    def answer(self, guard):
        return {"determined": determines, "within": within, "often": equally_often}[guard[0]](*guard[1:])

    def test_guards_and_answers(self):
        seen = {}
        for number in range(600):
            rng = random.Random(f"guards {number}")
            schema = some_schema(rng, 3)
            guard = self.some_guard(rng, some_report(rng, schema, 3))
            answer = self.answer(guard)
            guarded = Guarded(schema)
            self.assertEqual(self.add(guarded, guard), 0)
            if answer[0] == "no":
                # The rows of the database of the answer are refused.
                self.assert_broken(0, guard, answer[1], guarded.apply, inserts_of(answer[1]), [])
                self.assertEqual([guarded.rows(table.name) for table in schema.tables], [[]] * len(schema.tables))
            else:
                for _ in range(3):
                    database = some_database(rng, schema)
                    now = [(table.name, row) for table in schema.tables for row in guarded.rows(table.name)]
                    guarded.apply(inserts_of(database), now)
            seen[guard[0], answer[0]] = seen.get((guard[0], answer[0]), 0) + 1
        self.assertTrue(len(seen) == 6 and min(seen.values()) > 10, seen)

    def test_scenes(self):
        seen = {}
        for number in range(250):
            rng = random.Random(f"guarded {number}")
            schema = some_schema(rng, 3)
            guarded, plain, guards = Guarded(schema), Plain(schema), []
            reports = [some_report(rng, schema, 2) for _ in range(3)]
            for _ in range(12):
                if rng.random() < 0.4 and len(guards) < 8:
                    word = self.add_one(rng, guarded, plain, guards, reports)
                else:
                    word = self.change(rng, guarded, plain, guards)
                seen[word] = seen.get(word, 0) + 1
                for name, rows in plain.kept.items():
                    self.assertEqual(sorted(guarded.rows(name), key=repr), sorted(rows, key=repr))
                self.assertEqual(len(guarded), len(guards))
                self.assertTrue(all(holds(guard, plain.kept) for guard in guards))
        self.assertTrue(len(seen) == 5 and min(seen.values()) > 40, seen)

    def add_one(self, rng, guarded, plain, guards, reports):
        """Add a guard, or try to."""
        guard = self.some_guard(rng, rng.choice(reports))
        if holds(guard, plain.kept):
            self.assertEqual(self.add(guarded, guard), len(guards))
            guards.append(guard)
            return "added"
        self.assert_broken(len(guards), guard, plain.kept, self.add, guarded, guard)
        return "not added"

    def change(self, rng, guarded, plain, guards):
        """Change rows, or try to."""
        now, new = inserts_of(plain.kept), inserts_of(some_database(rng, plain.schema, 4))
        deletes = [change for change in now if rng.random() < 0.5]
        inserts = [change for change in new if rng.random() < 0.8]
        after = Plain(plain.schema)
        after.kept = {name: list(rows) for name, rows in plain.kept.items()}
        error = after.apply(inserts, deletes)
        if error is not None:
            with self.assertRaises(CountError) as caught:
                guarded.apply(inserts, deletes)
            self.assertIs(type(caught.exception), error[0])
            return "error"
        broken = [number for number, guard in enumerate(guards) if not holds(guard, after.kept)]
        if broken:
            self.assert_broken(broken[0], guards[broken[0]], after.kept, guarded.apply, inserts, deletes)
            return "broken"
        guarded.apply(inserts, deletes)
        self.assertTrue(is_plain_database(plain.schema, after.kept))
        plain.kept = after.kept
        return "changed"

    def test_found_is_any_that_shows_it(self):
        # With the two reports exchanged, other pairs may show it.
        for rng, report, other in some_pairs("found", 200):
            for word in ("within", "often"):
                for one, two in ((report, other), (other, report)):
                    database = some_database(rng, report.schema)
                    guarded = Guarded(report.schema)
                    guarded.apply(inserts_of(database), [])
                    if holds((word, one, two), database):
                        self.assertEqual(self.add(guarded, (word, one, two)), 0)
                    else:
                        self.assert_broken(0, (word, one, two), database, self.add, guarded, (word, one, two))

    def test_determined_in_databases(self):
        seen = {True: 0, False: 0}
        for rng, report in some_cases("guarded columns", 300, 3, 3):
            database = some_database(rng, report.schema)
            guarded = Guarded(report.schema)
            guarded.apply(inserts_of(database), [])
            columns = columns_of(report)
            guard = ("determined", report, rng.sample(columns, rng.choice([0, 1])), rng.choice(columns))
            expected = holds(guard, database)
            if expected:
                self.assertEqual(self.add(guarded, guard), 0)
            else:
                self.assert_broken(0, guard, database, self.add, guarded, guard)
            seen[expected] += 1
        self.assertTrue(min(seen.values()) > 20, seen)


if __name__ == "__main__":
    unittest.main()
