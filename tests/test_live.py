import copy
import unittest

from countonce.answers import is_loss_answer, is_once_answer, is_sum_answer
from countonce.databases import violations
from countonce.errors import (MissingRow, PresentRow, PromiseBroken, TooMany, TransactionClosed, TransactionOpen,
                              UnknownNumber, UnknownTable, Violation, WrongRow)
from countonce.live import Live, Transaction
from countonce.reports import Report
from countonce.schemas import Schema
from tests.samples import ANY_VALUES, SHOP, SMALL, TREE, WIDE, exact, report_of

ITEMS = "from items i; join orders o; link i.order = o.id; "
LINES = "from orders o; join items i; link i.order = o.id; "
FIRST = [("items", (1, 1, 20)), ("orders", (1, 5))]


class LiveCase(unittest.TestCase):
    def live(self, schema=SMALL, rows=()):
        """Return a live database with some rows."""
        live = Live(Schema.parse(schema))
        live.apply(list(rows), [])
        return live

    def assert_raises(self, error, told, call, *values, **named):
        """Check the error of a call and what it tells."""
        with self.assertRaises(error) as caught:
            call(*values, **named)
        self.assertIs(type(caught.exception), error)
        self.assertEqual(exact(list(vars(caught.exception).values())), exact(told))
        return caught.exception

    def assert_rows(self, live, **expected):
        self.assertEqual({table: live.rows(table) for table in expected}, expected)


class ExamplesTest(LiveCase):
    def test_example(self):
        schema = Schema.parse(SMALL)
        report = Report.parse(schema, "report sales\n  from items i\n  join orders o\n  link i.order = o.id\n"
                                      "  by o.customer\n  sum price\nend")
        live = Live(schema)
        number = live.add_report(report, once=True, sums=True, none_lost=True)
        self.assertIsNone(live.apply([("items", (1, 1, 20)), ("orders", (1, 5))], []))
        self.assertEqual(live.result(number), {(5,): 20})


class RowsTest(LiveCase):
    def test_no_rows_at_first(self):
        live = Live(schema=Schema.parse(SHOP))
        self.assert_rows(live, clients=[], orders=[], items=[])

    def test_ascending_order(self):
        rows = [("items", (1, 10, 0)), ("items", (1, 9, 5)), ("orders", (1, 0)), ("items", (1, 2, 10**9)),
                ("orders", (10, 0)), ("orders", (9, 0))]
        live = self.live(SMALL, rows)
        self.assert_rows(live, orders=[(1, 0), (9, 0), (10, 0)], items=[(1, 2, 10**9), (1, 9, 5), (1, 10, 0)])

    def test_none_is_less_than_all_values(self):
        schema = ("table a\n  column y\n  column z\n  column x\n  key x\n  optional y -> a\n"
                  "  optional z -> a\nend")
        rows = [(5, None, 1), (None, 5, 0), (0, 5, 2), (None, None, 5), (0, None, 3), (5, 0, 4), (None, 0, 6)]
        live = self.live(schema, [("a", row) for row in rows] + [("a", (0, 0, 7)), ("a", (None, None, 10))])
        live.apply([], [("a", (None, 5, 0)), ("a", (0, 5, 2)), ("a", (0, None, 3)), ("a", (5, 0, 4)),
                        ("a", (None, 0, 6)), ("a", (0, 0, 7))])
        self.assert_rows(live, a=[(None, None, 5), (None, None, 10), (5, None, 1)])
        live.apply([("a", row) for row in rows if 0 in row or row == (0, 5, 2)], [])
        self.assert_rows(live, a=[(None, None, 5), (None, None, 10), (None, 0, 6), (None, 5, 0), (0, None, 3),
                                  (0, 5, 2), (5, None, 1), (5, 0, 4)])

    def test_new_list_each_time(self):
        live = self.live(SMALL, FIRST)
        live.rows("orders").append((2, 6))
        live.rows(table="orders").clear()
        self.assert_rows(live, orders=[(1, 5)])

    def test_unknown_table(self):
        live = self.live(SMALL, FIRST)
        for name in ("", "order", "Orders", " orders", "clients", "order s"):
            self.assert_raises(UnknownTable, [name], live.rows, name)

    def test_schema_is_not_changed(self):
        schema = Schema.parse(SHOP)
        live = Live(schema)
        live.apply([("clients", (1, 1))], [])
        self.assertEqual(str(schema), SHOP)
        self.assertEqual(Live(schema).rows("clients"), [])


class TransactionTest(LiveCase):
    def test_begin(self):
        live = self.live()
        self.assertIsNone(live.transaction)
        transaction = live.begin()
        self.assertIs(type(transaction), Transaction)
        self.assertIs(live.transaction, transaction)
        self.assertIs(transaction.is_open, True)
        self.assert_raises(TransactionOpen, [], live.begin)
        self.assertIs(live.transaction, transaction)
        self.assertIsNone(transaction.rollback())
        self.assertIs(transaction.is_open, False)
        self.assertIsNone(live.transaction)

    def test_commit(self):
        live = self.live()
        transaction = live.begin()
        self.assertIsNone(transaction.insert("items", (1, 1, 20)))
        self.assertIsNone(transaction.insert(row=(1, 5), table="orders"))
        self.assert_rows(live, orders=[], items=[])
        self.assertIsNone(transaction.commit())
        self.assert_rows(live, orders=[(1, 5)], items=[(1, 1, 20)])
        self.assertIs(transaction.is_open, False)
        self.assertIsNone(live.transaction)
        second = live.begin()
        self.assertIsNone(second.delete(row=(1, 1, 20), table="items"))
        second.insert("items", (1, 2, 30))
        self.assert_rows(live, orders=[(1, 5)], items=[(1, 1, 20)])
        second.commit()
        self.assert_rows(live, orders=[(1, 5)], items=[(1, 2, 30)])

    def test_commit_without_changes(self):
        live = self.live(SMALL, FIRST)
        live.begin().commit()
        self.assert_rows(live, orders=[(1, 5)], items=[(1, 1, 20)])
        self.assertIsNone(live.transaction)

    def test_rollback(self):
        live = self.live(SMALL, FIRST)
        transaction = live.begin()
        transaction.delete("items", (1, 1, 20))
        transaction.insert("orders", (2, 5))
        transaction.rollback()
        self.assert_rows(live, orders=[(1, 5)], items=[(1, 1, 20)])
        live.begin().commit()
        self.assert_rows(live, orders=[(1, 5)], items=[(1, 1, 20)])

    def test_changes_so_far_count(self):
        live = self.live(SMALL, FIRST)
        transaction = live.begin()
        self.assert_raises(PresentRow, [(1, 5)], transaction.insert, "orders", (1, 5))
        transaction.delete("orders", (1, 5))
        self.assert_raises(MissingRow, [(1, 5)], transaction.delete, "orders", (1, 5))
        transaction.insert("orders", (1, 5))
        self.assert_raises(PresentRow, [(1, 5)], transaction.insert, "orders", (1, 5))
        transaction.insert("orders", (2, 5))
        self.assert_raises(PresentRow, [(2, 5)], transaction.insert, "orders", (2, 5))
        transaction.delete("orders", (2, 5))
        self.assert_raises(MissingRow, [(2, 5)], transaction.delete, "orders", (2, 5))
        self.assert_raises(MissingRow, [(2, 1, 20)], transaction.delete, "items", (2, 1, 20))
        transaction.commit()
        self.assert_rows(live, orders=[(1, 5)], items=[(1, 1, 20)])

    def test_the_same_row_in_two_tables(self):
        schema = "table a\n  column x\n  key x\nend\ntable b\n  column x\n  key x\nend"
        live = self.live(schema, [("a", (1,))])
        transaction = live.begin()
        self.assert_raises(MissingRow, [(1,)], transaction.delete, "b", (1,))
        transaction.insert("b", (1,))
        transaction.delete("a", (1,))
        transaction.commit()
        self.assert_rows(live, a=[], b=[(1,)])

    def test_unknown_tables(self):
        live = self.live(SMALL, FIRST)
        transaction = live.begin()
        for call in (transaction.insert, transaction.delete):
            for name in ("", "order", "Orders", "clients", "orders "):
                self.assert_raises(UnknownTable, [name], call, name, (1, 5))
                self.assert_raises(UnknownTable, [name], call, name, "no row")

    def test_wrong_rows(self):
        live = self.live(SMALL, FIRST)
        transaction = live.begin()
        wrong = [(1,), (1, 5, 1), [1, 5], (True, 5), (1, True), (False, 5), (1, -1), (1, 10**9 + 1), (1, "5"),
                 (1, (5,)), ((1, 5),), (1, []), ((1, 5), (1, 5)), {1: 5}]
        for value in wrong + [value for value in ANY_VALUES if value != (1, 5)]:
            for call in (transaction.insert, transaction.delete):
                before = copy.deepcopy(value)
                self.assert_raises(WrongRow, [value], call, "orders", value)
                self.assertEqual(value, before)
        for value in ((None, None), (1, None), (10**9, 0), (0, 10**9)):
            transaction.insert("orders", value)
            transaction.delete("orders", value)
        transaction.commit()
        self.assert_rows(live, orders=[(1, 5)], items=[(1, 1, 20)])

    def test_true_equals_one_but_is_no_cell(self):
        live = self.live(SMALL, [("orders", (1, 0))])
        transaction = live.begin()
        for row in ((True, 0), (1, False), (True, False)):
            self.assert_raises(WrongRow, [row], transaction.delete, "orders", row)
            self.assert_raises(WrongRow, [row], transaction.insert, "orders", row)

    def test_closed_transactions(self):
        for close in (lambda t: t.commit(), lambda t: t.rollback(), lambda t: t.__exit__(None, None, None)):
            live = self.live(SMALL, FIRST)
            transaction = live.begin()
            transaction.delete("items", (1, 1, 20))
            close(transaction)
            rows = {table: live.rows(table) for table in ("orders", "items")}
            self.assertIs(transaction.is_open, False)
            self.assert_raises(TransactionClosed, [], transaction.insert, "none", "no row")
            self.assert_raises(TransactionClosed, [], transaction.insert, "orders", (2, 5))
            self.assert_raises(TransactionClosed, [], transaction.delete, "orders", (1, 5))
            self.assert_raises(TransactionClosed, [], transaction.delete, "none", (1, 5))
            self.assert_raises(TransactionClosed, [], transaction.commit)
            self.assert_raises(TransactionClosed, [], transaction.rollback)
            self.assert_rows(live, **rows)
            other = live.begin()
            self.assert_raises(TransactionClosed, [], transaction.commit)
            self.assert_raises(TransactionClosed, [], transaction.rollback)
            self.assert_raises(TransactionClosed, [], transaction.insert, "orders", (2, 5))
            self.assertIs(live.transaction, other)
            self.assertIs(other.is_open, True)
            other.commit()
            self.assert_rows(live, **rows)


class ViolationTest(LiveCase):
    def assert_refused(self, live, found, call, *values):
        """Check that a call raises one of these violations."""
        with self.assertRaises(Violation) as caught:
            call(*values)
        self.assertIn(caught.exception.found, found)

    def test_refused_repaired_and_committed(self):
        live = self.live()
        transaction = live.begin()
        transaction.insert("items", (1, 1, 20))
        lost = ("reference", "items", (1, 1, 20), 0)
        self.assert_refused(live, [lost], transaction.commit)
        self.assertIs(transaction.is_open, True)
        self.assertIs(live.transaction, transaction)
        self.assert_raises(TransactionOpen, [], live.begin)
        self.assert_rows(live, orders=[], items=[])
        self.assert_raises(PresentRow, [(1, 1, 20)], transaction.insert, "items", (1, 1, 20))
        transaction.insert("orders", (2, 5))
        self.assert_refused(live, [lost], transaction.commit)
        transaction.delete("orders", (2, 5))
        transaction.insert("orders", (1, 5))
        transaction.commit()
        self.assert_rows(live, orders=[(1, 5)], items=[(1, 1, 20)])
        self.assertIsNone(live.transaction)

    def test_refused_and_rolled_back(self):
        live = self.live(SMALL, FIRST)
        transaction = live.begin()
        transaction.delete("orders", (1, 5))
        self.assert_refused(live, [("reference", "items", (1, 1, 20), 0)], transaction.commit)
        transaction.rollback()
        self.assert_rows(live, orders=[(1, 5)], items=[(1, 1, 20)])

    def test_keys(self):
        live = self.live(SMALL, FIRST)
        transaction = live.begin()
        transaction.insert("orders", (1, 6))
        found = [("key", "orders", (1, 5), (1, 6), ("id",)), ("key", "orders", (1, 6), (1, 5), ("id",))]
        self.assert_refused(live, found, transaction.commit)
        transaction.delete("orders", (1, 5))
        transaction.commit()
        self.assert_rows(live, orders=[(1, 6)], items=[(1, 1, 20)])

    def test_cells(self):
        live = self.live(SMALL, FIRST)
        for row in ((None, 5), (2, None), (None, None)):
            transaction = live.begin()
            transaction.insert("orders", row)
            self.assert_refused(live, [("cell", "orders", row)], transaction.commit)
            transaction.rollback()
        self.assert_refused(live, [("cell", "items", (None, 1, 1))], live.apply, [("items", (None, 1, 1))], [])

    def test_part_of_an_optional_reference(self):
        live = self.live(WIDE, [("a", (1, 2, 3)), ("b", (1, 1, 2, None, None))])
        self.assert_refused(live, [("cell", "b", (2, 1, 2, 2, None))], live.apply, [("b", (2, 1, 2, 2, None))], [])
        self.assert_refused(live, [("reference", "b", (2, 1, 2, 1, 2), 1), ("reference", "b", (2, 1, 2, 1, 2), 0)],
                            live.apply, [("b", (2, 1, 2, 1, 2))], [])
        live.apply([("b", (2, 1, 2, 2, 1))], [])
        self.assert_rows(live, b=[(1, 1, 2, None, None), (2, 1, 2, 2, 1)])

    def test_references_to_the_own_table(self):
        live = self.live(TREE)
        self.assert_refused(live, [("reference", "a", (1, 2, None), 0)], live.apply, [("a", (1, 2, None))], [])
        live.apply([("a", (1, 1, None))], [])
        live.apply([("a", (2, 3, 1)), ("a", (3, 2, 3))], [])
        self.assert_refused(live, [("reference", "a", (3, 2, 3), 0)], live.apply, [], [("a", (2, 3, 1))])
        live.apply([], [("a", (2, 3, 1)), ("a", (3, 2, 3))])
        self.assert_rows(live, a=[(1, 1, None)])

    def test_any_violation(self):
        live = self.live(WIDE, [("a", (1, 2, 3))])
        inserts = [("a", (1, 2, 4)), ("a", (5, 2, 3)), ("b", (1, 2, 1, None, None)), ("c", (1, 2, None))]
        with self.assertRaises(Violation) as caught:
            live.apply(inserts, [])
        database = {"a": [(1, 2, 3), (1, 2, 4), (5, 2, 3)], "b": [(1, 2, 1, None, None)], "c": [(1, 2, None)]}
        found = list(violations(Schema.parse(WIDE), database))
        self.assertEqual(len(found), 4)
        self.assertIn(caught.exception.found, found)
        self.assert_rows(live, a=[(1, 2, 3)], b=[], c=[])


class WithTest(LiveCase):
    def test_entering_and_leaving(self):
        live = self.live(SMALL, FIRST)
        transaction = live.begin()
        with transaction as entered:
            self.assertIs(entered, transaction)
            self.assertIs(live.transaction, transaction)
            entered.insert("orders", (2, 5))
        self.assertIs(transaction.is_open, False)
        self.assertIsNone(live.transaction)
        self.assert_rows(live, orders=[(1, 5)])

    def test_committed_inside(self):
        live = self.live(SMALL, FIRST)
        with live.begin() as transaction:
            transaction.insert("orders", (2, 5))
            transaction.commit()
            self.assertIsNone(live.transaction)
        self.assert_rows(live, orders=[(1, 5), (2, 5)])
        with live.begin() as transaction:
            transaction.insert("orders", (3, 5))
            transaction.rollback()
        self.assert_rows(live, orders=[(1, 5), (2, 5)])

    def test_errors_go_on(self):
        live = self.live(SMALL, FIRST)
        with self.assertRaises(ZeroDivisionError):
            with live.begin() as transaction:
                transaction.insert("orders", (2, 5))
                1 // 0
        self.assertIs(transaction.is_open, False)
        self.assert_rows(live, orders=[(1, 5)])
        with self.assertRaises(PresentRow):
            with live.begin() as transaction:
                transaction.insert("orders", (2, 5))
                transaction.insert("orders", (1, 5))
        with self.assertRaises(Violation):
            with live.begin() as transaction:
                transaction.delete("orders", (1, 5))
                transaction.commit()
        self.assertIsNone(live.transaction)
        self.assert_rows(live, orders=[(1, 5)], items=[(1, 1, 20)])
        live.begin().commit()

    def test_another_transaction_inside(self):
        # The first one is closed inside, and leaving it leaves the second one alone.
        live = self.live(SMALL, FIRST)
        with live.begin() as first:
            first.rollback()
            second = live.begin()
        self.assertIs(second.is_open, True)
        self.assertIs(live.transaction, second)
        second.insert("orders", (2, 5))
        second.commit()
        self.assert_rows(live, orders=[(1, 5), (2, 5)])


class ApplyTest(LiveCase):
    def test_deletes_come_first(self):
        live = self.live(SMALL, FIRST)
        live.apply([("orders", (1, 5))], [("orders", (1, 5))])
        self.assert_rows(live, orders=[(1, 5)], items=[(1, 1, 20)])
        live.apply(deletes=[("orders", (1, 5))], inserts=[("orders", (1, 6))])
        self.assert_rows(live, orders=[(1, 6)], items=[(1, 1, 20)])
        self.assert_raises(MissingRow, [(2, 5)], live.apply, [("orders", (2, 5))], [("orders", (2, 5))])

    def test_nothing(self):
        live = self.live(SMALL, FIRST)
        self.assertIsNone(live.apply([], []))
        self.assert_rows(live, orders=[(1, 5)], items=[(1, 1, 20)])

    def test_lists_stay(self):
        live = self.live(SMALL, FIRST)
        both = [("items", (1, 1, 20)), ("orders", (1, 5))]
        live.apply(both, both)
        self.assertEqual(both, [("items", (1, 1, 20)), ("orders", (1, 5))])
        self.assert_rows(live, orders=[(1, 5)], items=[(1, 1, 20)])
        inserts, deletes = [("orders", (2, 6)), ("orders", (3, 6))], [("items", (1, 1, 20)), ("orders", (1, 5))]
        live.apply(inserts, deletes)
        self.assertEqual(inserts, [("orders", (2, 6)), ("orders", (3, 6))])
        self.assertEqual(deletes, [("items", (1, 1, 20)), ("orders", (1, 5))])
        inserts.clear()
        self.assert_rows(live, orders=[(2, 6), (3, 6)], items=[])

    def test_first_error(self):
        live = self.live(SMALL, FIRST)
        live.apply([("orders", (2, 6))], [])
        cases = [
            (UnknownTable, ["x"], [("x", "no row"), ("orders", "no row")], [("orders", (2, 6))]),
            (UnknownTable, ["y"], [("x", (1,))], [("y", (1,)), ("orders", (1,))]),
            (WrongRow, [(1,)], [("x", (1,))], [("orders", (1,)), ("y", (1,))]),
            (WrongRow, [(True, 5)], [("orders", (3, 5)), ("orders", (True, 5))], [("orders", (2, 6))]),
            (WrongRow, [(2, True)], [("orders", (1, 5))], [("orders", (2, True))]),
            (MissingRow, [(1, 6)], [("orders", (2, 6))], [("orders", (2, 6)), ("orders", (1, 6)), ("x", (1,))]),
            (MissingRow, [(2, 6)], [], [("orders", (2, 6)), ("orders", (2, 6))]),
            (PresentRow, [(1, 5)], [("orders", (3, 5)), ("orders", (1, 5)), ("x", (1,))], [("orders", (2, 6))]),
            (PresentRow, [(3, 5)], [("orders", (3, 5)), ("orders", (3, 5))], []),
            (Violation, [("reference", "items", (1, 1, 20), 0)], [("orders", (3, 5))], [("orders", (1, 5))]),
        ]
        for error, told, inserts, deletes in cases:
            before = copy.deepcopy((inserts, deletes))
            self.assert_raises(error, told, live.apply, inserts, deletes)
            self.assertEqual((inserts, deletes), before)
            self.assertIsNone(live.transaction)
            self.assert_rows(live, orders=[(1, 5), (2, 6)], items=[(1, 1, 20)])

    def test_while_a_transaction_is_open(self):
        live = self.live(SMALL, FIRST)
        transaction = live.begin()
        transaction.insert("orders", (2, 6))
        for inserts, deletes in (([], []), ([("orders", (3, 6))], []), ([("x", (1,))], [("orders", "no row")])):
            self.assert_raises(TransactionOpen, [], live.apply, inserts, deletes)
            self.assertIs(live.transaction, transaction)
        transaction.commit()
        self.assert_rows(live, orders=[(1, 5), (2, 6)], items=[(1, 1, 20)])


class ReportsTest(LiveCase):
    def test_numbers_and_results(self):
        live = self.live(SMALL, FIRST)
        schema = Schema.parse(SMALL)
        self.assertEqual(live.add_report(report_of(SMALL, ITEMS + "by o.customer; sum price")), 0)
        self.assertEqual(live.add_report(report=report_of(SMALL, LINES + "rows")), 1)
        self.assertEqual(live.add_report(report_of(SMALL, "from items i; where i.price = 7; by i.line; sum line")), 2)
        self.assertEqual([live.result(0), live.result(number=1), live.result(2)], [{(5,): 20}, {(): 1}, {}])
        live.apply([("items", (1, 2, 7)), ("orders", (2, 6))], [])
        self.assertEqual([live.result(0), live.result(1), live.result(2)], [{(5,): 27}, {(): 2}, {(2,): 2}])
        self.assertEqual(str(schema), SMALL)

    def test_results_are_about_committed_rows(self):
        live = self.live(SMALL, FIRST)
        live.add_report(report_of(SMALL, LINES + "rows"))
        transaction = live.begin()
        transaction.insert("items", (1, 2, 7))
        self.assertEqual(live.result(0), {(): 1})
        self.assertEqual(live.add_report(report_of(SMALL, "from items i; sum price")), 1)
        self.assertEqual(live.result(1), {(): 20})
        transaction.delete("items", (1, 1, 20))
        transaction.commit()
        self.assertEqual([live.result(0), live.result(1)], [{(): 1}, {(): 7}])

    def test_joined_results_count_rows_twice(self):
        live = self.live(SMALL, [*FIRST, ("items", (1, 2, 7))])
        live.add_report(report_of(SMALL, LINES + "sum customer"))
        self.assertEqual(live.result(0), {(): 10})

    def test_results_are_new(self):
        live = self.live(SMALL, FIRST)
        live.add_report(report_of(SMALL, LINES + "rows"))
        live.result(0).clear()
        live.result(0)[(1,)] = 2
        self.assertEqual(live.result(0), {(): 1})

    def test_unknown_numbers(self):
        live = self.live(SMALL, FIRST)
        self.assert_raises(UnknownNumber, [0], live.result, 0)
        live.add_report(report_of(SMALL, LINES + "rows"))
        live.add_report(report_of(SMALL, LINES + "rows"))
        for number in (-1, -2, 2, 3, 8, 10**30, -10**30):
            self.assert_raises(UnknownNumber, [number], live.result, number)
            self.assert_raises(UnknownNumber, [number], live.watch, number)
        self.assertEqual([live.result(0), live.result(1)], [{(): 1}, {(): 1}])

    def test_eight_reports_and_one_more(self):
        live = self.live(SMALL, FIRST)
        for number in range(8):
            self.assertEqual(live.add_report(report_of(SMALL, "from items i; rows")), number)
        self.assert_raises(TooMany, [8], live.add_report, report_of(SMALL, "from items i; rows"))
        # With eight reports, it does not matter whether promises hold.
        self.assert_raises(TooMany, [8], live.add_report, report_of(SMALL, LINES + "rows"), once=True)
        self.assert_raises(UnknownNumber, [8], live.result, 8)
        self.assertEqual(live.result(7), {(): 1})

    def test_promises(self):
        names = ["once", "sums", "none_lost"]
        cases = [(LINES + "rows", "no yes no"), (LINES + "by i.line; rows", "yes no no"),
                 (LINES + "by i.price; rows", "no no no"), ("from orders o; join orders p; by p.id; rows", "yes no yes"),
                 ("from items i; link i.line = i.price; rows", "yes yes no"), (ITEMS + "rows", "yes yes yes"),
                 ("from orders o; join orders p; rows", "no yes yes"),
                 ("from orders o; join orders p; by p.customer; rows", "no no yes")]
        judges = {"once": is_once_answer, "sums": is_sum_answer, "none_lost": is_loss_answer}
        for rows, words in cases:
            holds = dict(zip(names, words.split()))
            for number in range(8):
                wanted = {name: bool(number >> place & 1) for place, name in enumerate(names)}
                report, live = report_of(SMALL, rows), self.live(SMALL, FIRST)
                text = str(report)
                broken = [name for name in names if wanted[name] and holds[name] == "no"]
                if broken:
                    with self.assertRaises(PromiseBroken) as caught:
                        live.add_report(report, **wanted)
                    self.assertEqual(caught.exception.promise, broken[0])
                    self.assertEqual(caught.exception.answer[0], "no")
                    self.assertIs(judges[broken[0]](report, caught.exception.answer), True)
                    self.assert_raises(UnknownNumber, [0], live.result, 0)
                self.assertEqual(live.add_report(report), 0)
                self.assertEqual(str(report), text)

    def test_parameters_behind_the_star(self):
        live = self.live()
        with self.assertRaises(TypeError):
            live.add_report(report_of(SMALL, LINES + "rows"), True)
        self.assertEqual(live.add_report(none_lost=False, report=report_of(SMALL, LINES + "rows"), once=False), 0)

    def test_databases_know_nothing_of_one_another(self):
        schema = Schema.parse(SMALL)
        one, two = Live(schema), Live(schema)
        one.begin()
        two.apply(FIRST, [])
        two.add_report(report_of(SMALL, LINES + "rows"))
        self.assertEqual([one.rows("orders"), two.rows("orders")], [[], [(1, 5)]])
        self.assert_raises(UnknownNumber, [0], one.result, 0)
        self.assertIsNone(two.transaction)


class WatchesTest(LiveCase):
    def setUp(self):
        self.watched = self.live(SMALL, [*FIRST, ("orders", (2, 6)), ("items", (2, 1, 7))])
        self.watched.add_report(report_of(SMALL, ITEMS + "by o.customer; sum price"))
        self.watched.add_report(report_of(SMALL, LINES + "by i.line; by o.id; rows"))

    def test_groups_that_differ(self):
        live = self.watched
        self.assertEqual(live.watch(0), 0)
        self.assertEqual(live.changes(0), [])
        live.apply([("items", (1, 2, 30)), ("orders", (3, 4)), ("items", (3, 1, 1))], [])
        self.assertEqual(live.changes(number=0), [(4,), (5,)])
        self.assertEqual(live.changes(0), [])
        live.apply([], [("items", (2, 1, 7)), ("items", (3, 1, 1))])
        self.assertEqual(live.changes(0), [(4,), (6,)])
        live.apply([("items", (2, 1, 8))], [("items", (1, 2, 30)), ("items", (1, 1, 20))])
        live.apply([("items", (1, 1, 50))], [])
        # The sum of group 5 was 50 before, too.
        self.assertEqual(live.changes(0), [(6,)])

    def test_a_group_with_the_sum_0(self):
        live = self.watched
        live.watch(0)
        live.apply([("orders", (3, 4)), ("items", (3, 1, 0))], [])
        self.assertEqual(live.changes(0), [(4,)])
        live.apply([], [("items", (3, 1, 0))])
        self.assertEqual(live.changes(0), [(4,)])

    def test_ascending_order(self):
        live = self.watched
        live.watch(1)
        rows = [("items", (2, 10, 0)), ("items", (1, 10, 0)), ("items", (1, 9, 0)), ("items", (2, 2, 0))]
        live.apply(rows, [])
        self.assertEqual(live.changes(0), [(2, 2), (9, 1), (10, 1), (10, 2)])
        live.apply([("items", (1, 3, 0))], rows[:2] + [("items", (1, 1, 20))])
        self.assertEqual(live.changes(0), [(1, 1), (3, 1), (10, 1), (10, 2)])

    def test_only_committed_rows(self):
        live = self.watched
        live.watch(0)
        transaction = live.begin()
        transaction.insert("items", (1, 2, 30))
        self.assertEqual(live.changes(0), [])
        self.assertEqual(live.watch(0), 1)
        transaction.commit()
        self.assertEqual([live.changes(0), live.changes(1)], [[(5,)], [(5,)]])

    def test_watches_know_nothing_of_one_another(self):
        live = self.watched
        live.watch(0)
        live.apply([("items", (1, 2, 30))], [])
        self.assertEqual([live.watch(number=0), live.watch(1)], [1, 2])
        self.assertEqual([live.changes(1), live.changes(2), live.changes(0)], [[], [], [(5,)]])
        live.apply([("items", (2, 2, 30))], [])
        self.assertEqual([live.changes(2), live.changes(0), live.changes(1)], [[(2, 2)], [(6,)], [(6,)]])

    def test_asking_for_results_asks_no_watch(self):
        live = self.watched
        live.watch(0)
        live.apply([("items", (1, 2, 30))], [])
        live.result(0)
        live.watch(0)
        self.assertEqual(live.changes(0), [(5,)])

    def test_lists_are_new(self):
        live = self.watched
        live.watch(0)
        live.changes(0).append((9,))
        self.assertEqual(live.changes(0), [])

    def test_unknown_numbers(self):
        live = self.watched
        self.assert_raises(UnknownNumber, [0], live.changes, 0)
        live.watch(1)
        for number in (-1, 1, 2, 10**30, -10**30):
            self.assert_raises(UnknownNumber, [number], live.changes, number)
        self.assertEqual(live.changes(0), [])

    def test_eight_watches_and_one_more(self):
        live = self.watched
        for number in range(8):
            self.assertEqual(live.watch(number % 2), number)
        self.assert_raises(TooMany, [8], live.watch, 0)
        self.assert_raises(TooMany, [8], live.watch, 1)
        for number in (2, -1, 8):
            self.assert_raises(UnknownNumber, [number], live.watch, number)
        live.apply([("items", (1, 2, 30))], [])
        self.assertEqual([live.changes(number) for number in range(8)], [[(5,)], [(2, 1)]] * 4)
        self.assert_raises(UnknownNumber, [8], live.changes, 8)

    def test_a_refused_watch_takes_no_number(self):
        live = self.watched
        self.assert_raises(UnknownNumber, [2], live.watch, 2)
        self.assertEqual(live.watch(0), 0)


if __name__ == "__main__":
    unittest.main()
