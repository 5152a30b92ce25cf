import unittest

from countonce.determined import determined
from countonce.errors import TooManyColumns, UnknownColumn
from countonce.lists import greatest_lists, least_lists
from countonce.reports import Report
from countonce.schemas import Schema
from tests.many import some_cases
from tests.plain import columns_of
from tests.plain_columns import Lists, plain_open
from tests.samples import ANY_VALUES, SHOP, SMALL, TREE, WIDE, exact, report_of
from tests.test_determined import NO_COLUMNS, SALES

# A table of five columns, each one of which can be set on its own.
FIVE = """table a
  column p
  column q
  column r
  column s
  column t
  key p q
end"""


class ListsCase(unittest.TestCase):
    def assert_lists(self, report, column, least, greatest):
        """Check both kinds of lists, given by the names of their columns or as they are."""
        text = str(report)
        self.assertEqual([least_lists(report, column), greatest_lists(report, column)], [least, greatest])
        self.assertEqual([least_lists(column=column, report=report), greatest_lists(column=column, report=report)],
                         [least, greatest])
        for call in (least_lists, greatest_lists):
            found = call(report, column)
            self.assertIs(type(found), list)
            self.assertTrue(all(type(chosen) is tuple for chosen in found))
            expected = list(found)
            found.append(())
            self.assertEqual(call(report, column), expected)
        plain = Lists(report)
        self.assertEqual([plain.least(column), plain.greatest(column)], [least, greatest])
        self.assertEqual(str(report), text)


class ExamplesTest(ListsCase):
    def test_example(self):
        schema = Schema.parse(SMALL)
        report = Report.parse(schema, "report sales\n  from items i\n  join orders o\n  link i.order = o.id\n"
                                      "  by o.customer\n  sum price\nend")
        self.assertEqual([least_lists(report), least_lists(report, ("o", "customer"))],
                         [[(('i', 'order'), ('i', 'line'))], [(('i', 'order'),), (('o', 'customer'),)]])
        self.assertEqual(greatest_lists(report),
                         [(('i', 'order'), ('i', 'price'), ('o', 'customer')),
                          (('i', 'line'), ('i', 'price'), ('o', 'customer'))])


class SomeTest(ListsCase):
    def test_one_report(self):
        report = report_of(SMALL, SALES)
        order, line, price, number, customer = columns_of(report)
        self.assert_lists(report, order, [(order,)], [(line, price, customer)])
        # A column that is not the first one of its class has the lists of the first one.
        self.assert_lists(report, number, [(order,)], [(line, price, customer)])
        self.assert_lists(report, line, [(line,)], [(order, price, customer)])
        self.assert_lists(report, price, [(order, line), (price,)], [(order, customer), (line, customer)])
        self.assert_lists(report, customer, [(order,), (customer,)], [(line, price)])
        self.assert_lists(report, None, [(order, line)], [(order, price, customer), (line, price, customer)])

    def test_columns_that_the_empty_list_determines(self):
        report = report_of(SMALL, "from items i; join orders o; link i.order = o.id; where o.id = 7; rows")
        order, line, price, number, customer = columns_of(report)
        for column in (order, number, customer):
            self.assert_lists(report, column, [()], [])
        self.assert_lists(report, line, [(line,)], [(price,)])
        self.assert_lists(report, price, [(line,), (price,)], [()])
        self.assert_lists(report, None, [(line,)], [(price,)])

    def test_a_report_without_open_columns(self):
        for rows in ("from orders o; where o.id = 1; rows", "from orders o; where o.id = 1; where o.id = 2; rows"):
            report = report_of(SMALL, rows)
            for column in (None, ("o", "id"), ("o", "customer")):
                self.assert_lists(report, column, [()], [])

    def test_the_empty_list_is_a_greatest_list(self):
        report = report_of("table a\n  column x\n  key x\nend", "from a m; rows")
        self.assert_lists(report, None, [(("m", "x"),)], [()])
        self.assert_lists(report, ("m", "x"), [(("m", "x"),)], [()])

    def test_smallest_lists_with_more_and_fewer_columns(self):
        report = report_of(WIDE, "from a i; rows")
        p, q, r = columns_of(report)
        self.assert_lists(report, None, [(p, q), (r,)], [(p,), (q,)])
        self.assert_lists(report, p, [(p,), (r,)], [(q,)])

    def test_order_of_lists(self):
        schema = ("table a\n  column p\n  column q\n  column r\n  column s\n  column t\n  key t s\n  key r p\n"
                  "  key q\nend")
        report = report_of(schema, "from a m; rows")
        p, q, r, s, t = columns_of(report)
        self.assert_lists(report, None, [(p, r), (q,), (s, t)], [(p, s), (p, t), (r, s), (r, t)])
        self.assert_lists(report, s, [(p, r), (q,), (s,)], [(p, t), (r, t)])

    def test_order_of_aliases_not_of_names(self):
        report = report_of(SMALL, "from orders z; join orders a; link a.customer = z.customer; rows")
        one, many, other, _ = columns_of(report)
        self.assert_lists(report, ("a", "customer"), [(one,), (many,), (other,)], [()])
        self.assert_lists(report, None, [(one, other)], [(one, many), (many, other)])

    def test_classes_after_same_steps(self):
        report = report_of(SMALL, "from items i; join items j; link i.order = j.order; link i.line = j.line; rows")
        order, line, price = columns_of(report)[:3]
        self.assert_lists(report, ("j", "price"), [(order, line), (price,)], [(order,), (line,)])

    def test_optional_references(self):
        report = report_of(TREE, "from a m; join a n; link m.y = n.x; rows")
        x, y, z = columns_of(report)[:3]
        other = [("n", "y"), ("n", "z")]
        self.assert_lists(report, ("n", "x"), [(x,), (y,)], [(z, *other)])
        self.assert_lists(report, ("n", "y"), [(x,), (y,), (other[0],)], [(z, other[1])])

    def test_lists_are_no_lists_of_the_measured_alias_or_group_columns(self):
        report = report_of(SMALL, "from orders o; by o.customer; rows")
        number, customer = columns_of(report)
        self.assert_lists(report, customer, [(number,), (customer,)], [()])
        self.assert_lists(report, None, [(number,)], [(customer,)])


class ErrorsTest(unittest.TestCase):
    def report(self, many):
        """Return a report with this many open columns, from 5 to 20."""
        rows = ["from a m", "join a n", "join a o", "join a p"][:-(-many // 5)]
        alias = rows[-1][-1]
        rows += [f"where {alias}.{column} = 1" for column in "tsrq"[:-many % 5]]
        report = report_of(FIVE, "; ".join([*rows, "rows"]))
        self.assertEqual(len(plain_open(report)), many)
        return report

    def test_twelve_open_columns(self):
        report = self.report(12)
        keys = [(alias, column) for alias in "mn" for column in "pq"] + [("o", "p"), ("o", "q")]
        self.assertEqual(least_lists(report), [tuple(keys)])
        self.assertEqual(greatest_lists(report, ("m", "r")), [
            tuple(c for c in columns_of(report) if c not in [("m", left), ("m", "r")] and c not in
                  [("o", "r"), ("o", "s"), ("o", "t")]) for left in "qp"])
        self.assertEqual(len(greatest_lists(report)), 6)

    def test_more_than_twelve_open_columns(self):
        for many in (13, 14, 16, 20):
            report = self.report(many)
            for column in (None, ("m", "p"), ("m", "t")):
                for call in (least_lists, greatest_lists):
                    with self.assertRaises(TooManyColumns) as caught:
                        call(report, column)
                    self.assertEqual(caught.exception.count, many)

    def test_a_column_that_is_determined_by_the_empty_list_does_not_help(self):
        report = self.report(13)
        self.assertIn(("o", "t"), determined(report, []))
        for call in (least_lists, greatest_lists):
            with self.assertRaises(TooManyColumns):
                call(report, ("o", "t"))

    def test_links_leave_fewer_open_columns(self):
        rows = "from a m; join a n; join a o; " + "; ".join(f"link m.{c} = n.{c}" for c in "pqr") + "; rows"
        # The aliases m and n always have one row, and 10 classes are left.
        self.assertEqual(len(least_lists(report_of(FIVE, rows))), 1)
        rows = "from a m; join a n; join a o; link m.p = n.p; link m.r = n.r; rows"
        with self.assertRaises(TooManyColumns) as caught:
            least_lists(report_of(FIVE, rows))
        self.assertEqual(caught.exception.count, 13)

    def test_unknown_columns(self):
        for report in (report_of(SMALL, SALES), self.report(13)):
            for value in [value for value in NO_COLUMNS if value is not None]:
                before = exact(value)
                for call in (least_lists, greatest_lists):
                    with self.assertRaises(UnknownColumn) as caught:
                        call(report, value)
                    self.assertEqual(exact(caught.exception.column), before)
                self.assertEqual(exact(value), before)
        self.assertIn(None, ANY_VALUES)


class ManyTest(ListsCase):
    def test_many(self):
        seen = {}
        for _, report in some_cases("lists", 300):
            if len(plain_open(report)) <= 8:
                plain = Lists(report)
                for column in [None, *columns_of(report)]:
                    least, greatest = least_lists(report, column), greatest_lists(report, column)
                    self.assertEqual([least, greatest], [plain.least(column), plain.greatest(column)])
                    self.assert_duality(plain, least, greatest)
                    kind = (min(len(least), 3), min(len(greatest), 3))
                    seen[kind] = seen.get(kind, 0) + 1
        self.assertTrue(len(seen) > 8 and min(seen.values()) > 5, seen)

    def assert_duality(self, plain, least, greatest):
        """Check that the smallest lists are those that hit what each greatest list leaves out (point 26)."""
        def hits(chosen):
            return all(any(column not in left for column in chosen) for left in greatest)
        found = [chosen for chosen in plain.told if hits(chosen) and not any(map(hits, plain.fewer(chosen)))]
        self.assertEqual(plain.ordered(found), least)

    def test_lists_by_what_they_determine(self):
        for _, report in some_cases("telling", 150):
            if len(plain_open(report)) <= 12:
                for column in [None, columns_of(report)[-1]]:
                    wanted = columns_of(report) if column is None else [column]
                    for chosen in least_lists(report, column):
                        self.assertTrue(set(wanted) <= set(determined(report, list(chosen))))
                        for left in chosen:
                            fewer = [other for other in chosen if other != left]
                            self.assertFalse(set(wanted) <= set(determined(report, fewer)))
                    for chosen in greatest_lists(report, column)[:20]:
                        self.assertFalse(set(wanted) <= set(determined(report, list(chosen))))
                        for more in [other for other in plain_open(report) if other not in chosen]:
                            self.assertTrue(set(wanted) <= set(determined(report, [*chosen, more])))

    def test_lists_of_a_bigger_shop(self):
        report = report_of(SHOP, "from items i; join orders o; join clients c; link i.order = o.id; "
                                 "link c.id = o.customer; rows")
        self.assertEqual(least_lists(report), [(("i", "order"), ("i", "line"))])
        self.assertEqual(least_lists(report, ("c", "name")),
                         [(("i", "order"),), (("o", "customer"),), (("c", "name"),)])


if __name__ == "__main__":
    unittest.main()
