import random
import unittest

from countonce.errors import TooMany, UnknownNumber, Violation
from countonce.ledgers import Ledger
from countonce.live import Live
from countonce.often import equally_often
from countonce.reports import Report
from countonce.schemas import Schema
from tests.many import some_database, some_report, some_schema
from tests.plain import plain_matches, plain_pair
from tests.samples import SHOP, SMALL, TREE, report_of
from tests.twists import twisted

LINES = "from orders o; join items i; link i.order = o.id; "


def plain_standing(report, live):
    """Return the numbers of matches of all pairs in the committed rows."""
    database = {table.name: live.rows(table.name) for table in report.schema.tables}
    found = [plain_pair(report, match) for match in plain_matches(report, database)]
    return {pair: found.count(pair) for pair in found}


def less(now, before):
    """Return the differences that are not 0."""
    found = {pair: now.get(pair, 0) - before.get(pair, 0) for pair in {**now, **before}}
    return {pair: many for pair, many in found.items() if many}


def plus(*differences):
    """Return what differences add up to, where this is not 0."""
    pairs = {pair for found in differences for pair in found}
    sums = {pair: sum(found.get(pair, 0) for found in differences) for pair in pairs}
    return {pair: many for pair, many in sums.items() if many}


class LedgerCase(unittest.TestCase):
    def live(self, rows, schema=SMALL):
        live = Live(Schema.parse(schema))
        live.apply(rows, [])
        return live

    def assert_unknown(self, told, call, *numbers):
        with self.assertRaises(UnknownNumber) as caught:
            call(*numbers)
        self.assertEqual(caught.exception.number, told)


class ExamplesTest(LedgerCase):
    def test_example(self):
        schema = Schema.parse(SMALL)
        report = Report.parse(schema, "report lines\n  from orders o\n  join items i\n  link i.order = o.id\n  rows\nend")
        live = Live(schema)
        ledger = Ledger(live, report)
        live.apply([("orders", (1, 5)), ("items", (1, 1, 20)), ("items", (1, 2, 30))], [])
        found = [ledger.told(), ledger.told()]
        live.apply([], [("items", (1, 2, 30))])
        self.assertEqual(found + [ledger.told(), ledger.standing()],
                         [{((), (1, 5)): 2}, {}, {((), (1, 5)): -1}, {((), (1, 5)): 1}])


class LedgersTest(LedgerCase):
    def setUp(self):
        self.first = self.live([("orders", (1, 5)), ("items", (1, 1, 20)), ("items", (1, 2, 30)), ("orders", (2, 6))])
        self.report = report_of(SMALL, LINES + "by o.customer; rows")

    def test_standing(self):
        ledger = Ledger(report=self.report, live=self.first)
        self.assertEqual(ledger.standing(), {((5,), (1, 5)): 2})
        self.first.apply([("items", (2, 1, 0))], [("items", (1, 1, 20))])
        self.assertEqual(ledger.standing(), {((5,), (1, 5)): 1, ((6,), (2, 6)): 1})
        self.first.apply([], [("items", (1, 2, 30)), ("items", (2, 1, 0))])
        self.assertEqual(ledger.standing(), {})

    def test_a_ledger_that_is_made_in_the_midst_begins_there(self):
        ledger = Ledger(self.first, self.report)
        self.assertEqual(ledger.told(), {})
        self.first.apply([("items", (1, 3, 0)), ("items", (2, 1, 0))], [])
        later = Ledger(self.first, self.report)
        self.assertEqual([ledger.told(), later.told()], [{((5,), (1, 5)): 1, ((6,), (2, 6)): 1}, {}])
        self.first.apply([], [("items", (2, 1, 0))])
        self.assertEqual([later.told(), ledger.told()], [{((6,), (2, 6)): -1}] * 2)

    def test_differences_of_0_are_not_told(self):
        ledger = Ledger(self.first, self.report)
        self.first.apply([("items", (1, 3, 0))], [("items", (1, 1, 20))])
        self.assertEqual(ledger.told(), {})
        self.first.apply([("items", (1, 4, 0)), ("items", (2, 1, 0))], [("items", (1, 3, 0))])
        self.assertEqual(ledger.told(), {((6,), (2, 6)): 1})
        self.first.apply([("items", (1, 5, 0))], [])
        self.first.apply([], [("items", (1, 5, 0))])
        self.assertEqual(ledger.told(), {})

    def test_a_changed_measured_row_is_another_pair(self):
        ledger = Ledger(self.first, self.report)
        self.first.apply([("orders", (1, 7))], [("orders", (1, 5))])
        self.assertEqual(ledger.told(), {((5,), (1, 5)): -2, ((7,), (1, 7)): 2})

    def test_pairs_with_none(self):
        live = self.live([("a", (1, None, None))], TREE)
        ledger = Ledger(live, report_of(TREE, "from a m; join a n; by n.x; rows"))
        live.apply([("a", (2, 1, None))], [])
        one, two = (1, None, None), (2, 1, None)
        self.assertEqual(ledger.told(), {((2,), one): 1, ((1,), two): 1, ((2,), two): 1})
        self.assertEqual(ledger.standing(), {((1,), one): 1, ((2,), one): 1, ((1,), two): 1, ((2,), two): 1})

    def test_committed_rows_only(self):
        ledger = Ledger(self.first, self.report)
        transaction = self.first.begin()
        transaction.insert("items", (1, 3, 0))
        self.assertEqual([ledger.told(), ledger.standing(), ledger.mark()], [{}, {((5,), (1, 5)): 2}, 1])
        inside = Ledger(self.first, self.report)
        transaction.commit()
        self.assertEqual([ledger.told(), inside.told(), ledger.between(0, 1)], [{((5,), (1, 5)): 1}] * 2 + [{}])
        transaction = self.first.begin()
        transaction.delete("items", (1, 3, 0))
        transaction.rollback()
        self.assertEqual([ledger.told(), inside.told()], [{}, {}])

    def test_a_commit_that_is_refused(self):
        ledger = Ledger(self.first, self.report)
        with self.first.begin() as transaction:
            transaction.insert("items", (3, 1, 0))
            with self.assertRaises(Violation):
                transaction.commit()
            self.assertEqual([ledger.told(), ledger.mark()], [{}, 1])
            transaction.insert("orders", (3, 8))
            transaction.commit()
        self.assertEqual(ledger.told(), {((8,), (3, 8)): 1})
        self.assertEqual(ledger.between(0, 1), {})

    def test_three_transactions_in_a_row(self):
        ledgers = []
        for line in (3, 4, 5):
            transaction = self.first.begin()
            transaction.insert("items", (1, line, 0))
            ledgers.append(Ledger(self.first, self.report))
            transaction.commit()
        self.assertEqual([ledger.told() for ledger in ledgers], [{((5,), (1, 5)): many} for many in (3, 2, 1)])
        self.assertEqual([ledger.between(0, 0) for ledger in ledgers], [{}] * 3)

    def test_dicts_are_new(self):
        ledger = Ledger(self.first, self.report)
        self.first.apply([("items", (1, 3, 0))], [])
        ledger.mark()
        for call in (ledger.standing, lambda: ledger.between(0, 1)):
            first = call()
            expected = dict(first)
            first.clear()
            self.assertEqual(call(), expected)
            call()[((9,), (9, 9))] = 9
            self.assertEqual(call(), expected)
        ledger.standing().clear()
        ledger.told().clear()
        ledger.told()[((9,), (9, 9))] = 1
        self.assertEqual(ledger.told(), {})
        Ledger(self.first, self.report).standing().clear()
        self.assertEqual(ledger.standing(), {((5,), (1, 5)): 3})

    def test_it_takes_no_numbers(self):
        live = self.first
        ledgers = [Ledger(live, self.report) for _ in range(20)]
        self.assertEqual([live.add_report(self.report) for _ in range(8)], list(range(8)))
        self.assertEqual([live.watch(0) for _ in range(8)], list(range(8)))
        live.apply([("items", (1, 3, 0))], [])
        for ledger in ledgers:
            self.assertEqual([ledger.told(), ledger.mark()], [{((5,), (1, 5)): 1}, 1])
        self.assertEqual([live.changes(number) for number in range(8)], [[(5,)]] * 8)

    def test_a_watch_that_is_asked_tells_a_ledger_nothing(self):
        live = self.first
        live.watch(live.add_report(self.report))
        ledger = Ledger(live, self.report)
        live.apply([("items", (1, 3, 0))], [])
        self.assertEqual([live.changes(0), ledger.told(), live.changes(0)], [[(5,)], {((5,), (1, 5)): 1}, []])

    def test_two_live_databases(self):
        other = Live(Schema.parse(SMALL))
        one, two = Ledger(self.first, self.report), Ledger(other, self.report)
        other.apply([("orders", (7, 5)), ("items", (7, 7, 7))], [])
        self.assertEqual([one.told(), two.told()], [{}, {((5,), (7, 5)): 1}])

    def test_a_report_of_an_equal_schema(self):
        live = Live(Schema.parse(SHOP))
        ledger = Ledger(live, report_of(SHOP, "from clients c; join orders o; link o.customer = c.id; rows"))
        live.apply([("clients", (1, 1)), ("orders", (4, 1, None)), ("orders", (5, 1, 4))], [])
        self.assertEqual(ledger.told(), {((), (1, 1)): 2})

    def test_an_empty_report(self):
        ledger = Ledger(self.first, report_of(SMALL, "from orders o; where o.id = 1; where o.id = 2; rows"))
        self.first.apply([("orders", (3, 3))], [])
        self.assertEqual([ledger.standing(), ledger.told(), ledger.mark(), ledger.between(0, 1)], [{}, {}, 1, {}])


class MarksTest(LedgerCase):
    def setUp(self):
        self.first = self.live([("orders", (1, 5)), ("items", (1, 1, 20))])
        self.report = report_of(SMALL, LINES + "rows")
        self.pair = ((), (1, 5))

    def test_marks(self):
        ledger = Ledger(self.first, self.report)
        self.assertEqual(ledger.between(0, 0), {})
        self.first.apply([("items", (1, 2, 0)), ("items", (1, 3, 0))], [])
        self.assertEqual(ledger.mark(), 1)
        self.first.apply([], [("items", (1, 2, 0))])
        self.assertEqual(ledger.mark(), 2)
        self.first.apply([], [("items", (1, 1, 20)), ("items", (1, 3, 0))])
        self.assertEqual(ledger.mark(), 3)
        expected = [1, 3, 2, 0]
        for first in range(4):
            for second in range(4):
                many = expected[second] - expected[first]
                self.assertEqual(ledger.between(first, second), {self.pair: many} if many else {})
                self.assertEqual(ledger.between(second=second, first=first), {self.pair: many} if many else {})

    def test_a_mark_tells_nothing_and_telling_makes_no_mark(self):
        ledger = Ledger(self.first, self.report)
        self.first.apply([("items", (1, 2, 0))], [])
        ledger.mark()
        self.assertEqual(ledger.told(), {self.pair: 1})
        self.assertEqual([ledger.told(), ledger.told()], [{}, {}])
        self.assert_unknown(2, ledger.between, 0, 2)
        self.assertEqual(ledger.between(0, 1), {self.pair: 1})
        ledger.standing()
        ledger.between(0, 1)
        self.assertEqual(ledger.mark(), 2)

    def test_ledgers_of_one_report_know_nothing_of_one_another(self):
        one, two = Ledger(self.first, self.report), Ledger(self.first, self.report)
        self.first.apply([("items", (1, 2, 0))], [])
        self.assertEqual([one.mark(), one.told()], [1, {self.pair: 1}])
        self.assert_unknown(1, two.between, 1, 0)
        self.assertEqual(two.told(), {self.pair: 1})
        self.assertEqual(two.mark(), 1)

    def test_sixteen_marks_and_one_more(self):
        ledger, other = Ledger(self.first, self.report), Ledger(self.first, self.report)
        for number in range(1, 16):
            self.first.apply([("items", (1, number + 1, 0))], [])
            self.assertEqual(ledger.mark(), number)
        for _ in range(2):
            with self.assertRaises(TooMany) as caught:
                ledger.mark()
            self.assertEqual(caught.exception.limit, 16)
        self.assert_unknown(16, ledger.between, 0, 16)
        self.assertEqual([ledger.between(0, 15), ledger.between(15, 3)], [{self.pair: 15}, {self.pair: -12}])
        self.assertEqual([ledger.told(), other.mark()], [{self.pair: 15}, 1])

    def test_unknown_numbers(self):
        ledger = Ledger(self.first, self.report)
        ledger.mark()
        for number in (-1, -2, 2, 3, 16, 10**30, -10**30):
            self.assert_unknown(number, ledger.between, number, 0)
            self.assert_unknown(number, ledger.between, 1, number)
            self.assert_unknown(number, ledger.between, number, number + 5)
            self.assert_unknown(number, ledger.between, number, -7)
        self.assertEqual(ledger.between(0, 1), {})


class ManyTest(LedgerCase):
    def test_many(self):
        told = 0
        for number in range(150):
            rng = random.Random(f"ledgers {number}")
            schema = some_schema(rng, 3)
            live = Live(schema)
            report = some_report(rng, schema, 3)
            other = twisted(rng, report, 3)
            ledger, beside, late = Ledger(live, report), Ledger(live, other), Ledger(live, report)
            same = equally_often(report, other)[0] == "yes"
            begun, before, all_told, marks = {}, {}, [], [{}]
            for _ in range(rng.randint(1, 6)):
                self.change(rng, live, schema)
                now = plain_standing(report, live)
                self.assertEqual(ledger.standing(), now)
                if rng.random() < 0.5:
                    found = ledger.told()
                    self.assertEqual(found, less(now, before))
                    self.assertTrue(beside.told() == found or not same)
                    before, told = now, told + len(found)
                    all_told.append(found)
                if rng.random() < 0.5:
                    self.assertEqual(ledger.mark(), len(marks))
                    marks.append(now)
            # All that has been told adds up, however often it was asked (point 32).
            self.assertEqual(plus(*all_told), less(before, begun))
            self.assertEqual(late.told(), less(plain_standing(report, live), begun))
            self.assert_marks(ledger, marks)
        self.assertGreater(told, 200)

    def assert_marks(self, ledger, marks):
        for one in range(len(marks)):
            for two in range(len(marks)):
                self.assertEqual(ledger.between(one, two), less(marks[two], marks[one]))
                for three in range(len(marks)):
                    self.assertEqual(plus(ledger.between(one, two), ledger.between(two, three)),
                                     ledger.between(one, three))

    def change(self, rng, live, schema):
        """Put other rows into a live database, perhaps with a transaction that is rolled back."""
        now = {(table.name, row) for table in schema.tables for row in live.rows(table.name)}
        new = {(name, row) for name, rows in some_database(rng, schema).items() for row in rows}
        if rng.random() < 0.3:
            with live.begin() as transaction:
                for table, row in sorted(new - now, key=repr):
                    transaction.insert(table, row)
        live.apply(sorted(new - now, key=repr), sorted(now - new, key=repr))


if __name__ == "__main__":
    unittest.main()
