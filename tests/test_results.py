import copy
import inspect
import itertools
import random
import unittest

from countonce.reports import Report
from countonce.results import counted, joined, matches, pairs, plain_sum, total
from countonce.schemas import Schema
from tests.many import some_cases, some_database
from tests.plain import columns_of, keeps_own_filters, plain_matches, plain_pair, plain_worth
from tests.samples import SALES, SMALL, TREE, report_of

LINES = "from orders o; join items i; link i.order = o.id; "

# A table whose reference is optional, and whose measure stands beside it.
NOTES = """table notes
  column id
  column worth
  column up
  key id
  optional up -> notes
end"""


def any_database(rng, schema, rows=5, values=3):
    """Return a database, hardly ever a valid one, with up to so many rows in each table."""
    cells = [None, *range(values)]
    database = {}
    for table in schema.tables:
        found = [tuple(rng.choice(cells) for _ in table.columns) for _ in range(rng.randint(0, rows))]
        database[table.name] = list(dict.fromkeys(found))
    return database


def results(report, database):
    """Return all results; the pairs in an order of their own."""
    return [joined(report, database), counted(report, database), total(report, database),
            plain_sum(report, database), sorted(pairs(report, database), key=repr)]


def plain_results(report, database):
    """Return what results returns, straight from the words of point 10."""
    found = [plain_pair(report, match) for match in plain_matches(report, database)]
    sums = {group: sum(plain_worth(report, row) for other, row in found if other == group) for group, _ in found}
    once = {group: sum(plain_worth(report, row) for other, row in set(found) if other == group) for group, _ in found}
    kept = [row for row in database[report.aliases[0][1]] if keeps_own_filters(report, row)]
    return [sums, once, sum(plain_worth(report, row) for row in {row for _, row in found}),
            sum(plain_worth(report, row) for row in kept), sorted(set(found), key=repr)]


class ResultsCase(unittest.TestCase):
    def assert_results(self, report, database, found=None):
        """Check all results of a report in a database, and that both stay as they are."""
        before = copy.deepcopy(database)
        order = list(database)
        text = str(report)
        told = list(matches(report, database))
        self.assertEqual(told, plain_matches(report, database))
        if found is not None:
            self.assertEqual(told, found)
        self.assertTrue(all(type(match) is dict for match in told))
        self.assertEqual(results(report, database), plain_results(report, database))
        self.assertEqual(len(pairs(report, database)), len(set(pairs(report, database))))
        self.assertEqual([database, list(database), str(report)], [before, order, text])
        return told


class ExamplesTest(ResultsCase):
    def test_example_of_the_interface(self):
        schema = Schema.parse(SMALL)
        report = Report.parse(
            schema, "report lines\n  from orders o\n  join items i\n  link i.order = o.id\n  rows\nend")
        database = {"orders": [(1, 5), (2, 6)], "items": [(1, 1, 20), (1, 2, 30)]}
        self.assertEqual([joined(report, database), counted(report, database)], [{(): 2}, {(): 1}])
        self.assert_results(report, database, [{"o": (1, 5), "i": (1, 1, 20)}, {"o": (1, 5), "i": (1, 2, 30)}])
        self.assertEqual([total(report, database), plain_sum(report, database)], [1, 2])
        self.assertEqual(pairs(report, database), [((), (1, 5))])

    def test_report_of_the_document(self):
        report = Report.parse(Schema.parse(SMALL), SALES)
        database = {"orders": [(1, 7), (2, 8), (3, 7)], "items": [(1, 1, 20), (1, 2, 30), (2, 1, 40), (3, 1, 0)]}
        self.assert_results(report, database)
        self.assertEqual(results(report, database), [
            {(7,): 50}, {(7,): 50}, 50, 90, [((7,), (1, 1, 20)), ((7,), (1, 2, 30)), ((7,), (3, 1, 0))]])

    def test_arguments_by_name(self):
        report = report_of(SMALL, "from orders o; rows")
        database = {"orders": [(1, 5)], "items": []}
        self.assertEqual(list(matches(report=report, database=database)), [{"o": (1, 5)}])
        self.assertEqual(joined(report=report, database=database), {(): 1})
        self.assertEqual(counted(report=report, database=database), {(): 1})
        self.assertEqual(total(report=report, database=database), 1)
        self.assertEqual(plain_sum(report=report, database=database), 1)
        self.assertEqual(pairs(report=report, database=database), [((), (1, 5))])

    def test_a_row_counts_for_each_match_for_each_group_and_in_all(self):
        report = report_of(SMALL, LINES + "by i.price; sum customer")
        database = {"orders": [(1, 5), (2, 7), (3, 9)],
                    "items": [(1, 1, 20), (1, 2, 20), (1, 3, 30), (2, 1, 30), (4, 1, 30)]}
        self.assert_results(report, database)
        self.assertEqual(results(report, database), [
            {(20,): 10, (30,): 12}, {(20,): 5, (30,): 12}, 12, 21,
            [((20,), (1, 5)), ((30,), (1, 5)), ((30,), (2, 7))]])

    def test_groups_of_several_columns_in_their_order(self):
        report = report_of(SMALL, LINES + "by i.line; by o.customer; by i.order; sum id")
        database = {"orders": [(1, 5), (2, 5)], "items": [(2, 8, 20), (1, 9, 30)]}
        self.assertEqual(joined(report, database), {(9, 5, 1): 1, (8, 5, 2): 2})
        self.assertEqual(list(joined(report, database)), [(9, 5, 1), (8, 5, 2)])
        self.assert_results(report, database)


class MatchesTest(ResultsCase):
    def test_order_is_that_of_the_places_alias_by_alias(self):
        database = {"orders": [(9, 1), (3, 2), (5, 2)], "items": [(5, 1, 1), (9, 9, 9), (3, 7, 2), (9, 2, 1)]}
        self.assert_results(report_of(SMALL, LINES + "rows"), database, [
            {"o": (9, 1), "i": (9, 9, 9)}, {"o": (9, 1), "i": (9, 2, 1)}, {"o": (3, 2), "i": (3, 7, 2)},
            {"o": (5, 2), "i": (5, 1, 1)}])
        self.assert_results(report_of(SMALL, "from items i; join orders o; link i.order = o.id; rows"), database, [
            {"o": (5, 2), "i": (5, 1, 1)}, {"o": (9, 1), "i": (9, 9, 9)}, {"o": (3, 2), "i": (3, 7, 2)},
            {"o": (9, 1), "i": (9, 2, 1)}])

    def test_no_link_makes_all_combinations(self):
        report = report_of(SMALL, "from orders a; join orders b; join items c; rows")
        database = {"orders": [(2, 0), (1, 0)], "items": [(3, 3, 3), (1, 1, 1)]}
        orders, items = database["orders"], database["items"]
        self.assert_results(report, database, [
            {"a": a, "b": b, "c": c} for a in orders for b in orders for c in items])

    def test_it_is_a_generator_function(self):
        self.assertTrue(inspect.isgeneratorfunction(matches))
        report = report_of(SMALL, "from items a; join items b; join items c; join items d; rows")
        many = [(number, number, number) for number in range(300)]
        told = matches(report, {"orders": [], "items": many})
        first = [next(told), next(told)]
        self.assertEqual(first, [{"a": many[0], "b": many[0], "c": many[0], "d": many[at]} for at in (0, 1)])
        told.close()

    def test_two_at_once(self):
        report = report_of(SMALL, LINES + "rows")
        database = {"orders": [(1, 5), (2, 6)], "items": [(1, 1, 20), (2, 2, 30), (1, 3, 40)]}
        expected = plain_matches(report, database)
        self.assertEqual(len(expected), 3)
        one, two = matches(report, database), matches(report, database)
        self.assertEqual([next(one), next(one), next(two)], [expected[0], expected[1], expected[0]])
        self.assertEqual([list(one), list(two)], [expected[2:], expected[1:]])

    def test_told_dicts_can_be_changed(self):
        report = report_of(SMALL, LINES + "by o.customer; rows")
        database = {"orders": [(1, 5), (2, 6)], "items": [(1, 1, 20), (2, 2, 30), (1, 3, 40)]}
        expected = plain_matches(report, database)
        found = []
        for match in matches(report, database):
            found.append(dict(match))
            match["o"] = (7, 7)
            del match["i"]
        self.assertEqual(found, expected)
        self.assertEqual(list(matches(report, database)), expected)

    def test_links_and_filters_in_any_direction(self):
        database = {"orders": [(1, 5), (2, 2), (3, 9)], "items": [(1, 5, 1), (2, 2, 2), (3, 9, 9), (5, 1, 9)]}
        rows = ["link i.order = o.id", "link o.customer = i.line", "link i.order = i.price"]
        for links in itertools.permutations(rows):
            for filters in (["where i.order = 2"], ["where i.order = 2", "where o.customer = 2"]):
                report = report_of(SMALL, "; ".join(["from orders o; join items i", *links, *filters, "rows"]))
                self.assert_results(report, database, [{"o": (2, 2), "i": (2, 2, 2)}])

    def test_links_between_later_aliases(self):
        database = {"orders": [(1, 5), (2, 6)], "items": [(1, 1, 5), (2, 2, 6), (1, 2, 6)]}
        report = report_of(SMALL, "from orders a; join items b; join orders c; join items d; link c.id = d.order; "
                                  "link d.line = b.line; link b.price = a.customer; link c.customer = a.customer; rows")
        self.assert_results(report, database, [{"a": (1, 5), "b": (1, 1, 5), "c": (1, 5), "d": (1, 1, 5)},
                                               {"a": (2, 6), "b": (2, 2, 6), "c": (2, 6), "d": (2, 2, 6)},
                                               {"a": (2, 6), "b": (1, 2, 6), "c": (2, 6), "d": (2, 2, 6)}])

    def test_none_is_equal_to_nothing(self):
        database = {"notes": [(1, 10, None), (2, 20, None), (3, 30, 1), (4, 40, 1)]}
        self.assert_results(report_of(NOTES, "from notes a; join notes b; link a.up = b.up; rows"), database, [
            {"a": a, "b": b} for a in database["notes"][2:] for b in database["notes"][2:]])
        self.assert_results(report_of(NOTES, "from notes a; link a.up = a.up; rows"), database,
                            [{"a": (3, 30, 1)}, {"a": (4, 40, 1)}])
        self.assert_results(report_of(NOTES, "from notes a; join notes b; link b.up = b.up; rows"), database,
                            [{"a": a, "b": b} for a in database["notes"] for b in database["notes"][2:]])
        self.assert_results(report_of(NOTES, "from notes a; where a.up = 1; rows"), database,
                            [{"a": (3, 30, 1)}, {"a": (4, 40, 1)}])
        self.assert_results(report_of(NOTES, "from notes a; where a.up = 0; rows"), database, [])
        self.assert_results(report_of(NOTES, "from notes a; rows"), database, [{"a": row} for row in database["notes"]])

    def test_columns_of_two_tables_with_one_name(self):
        report = report_of(TREE + "\n" + SMALL, "from a x; join orders y; link x.y = y.id; rows")
        self.assert_results(report, {"a": [(1, 2, None)], "orders": [(1, 1), (2, 2)], "items": []},
                            [{"x": (1, 2, None), "y": (2, 2)}])


class EdgesTest(ResultsCase):
    def test_tables_without_rows(self):
        for rows in ("from orders o; rows", "from orders o; sum id", LINES + "rows", LINES + "by i.price; sum id"):
            report = report_of(SMALL, rows)
            self.assert_results(report, {"orders": [], "items": []}, [])
            self.assertEqual(results(report, {"orders": [], "items": []}), [{}, {}, 0, 0, []])
        report = report_of(SMALL, LINES + "sum customer")
        self.assertEqual(results(report, {"orders": [(1, 5)], "items": []}), [{}, {}, 0, 5, []])
        self.assertEqual(results(report, {"orders": [], "items": [(1, 5, 6)]}), [{}, {}, 0, 0, []])

    def test_sums_of_none_and_of_zero(self):
        report = report_of(SMALL, "from items i; by i.order; sum price")
        database = {"orders": [], "items": [(1, 1, None), (1, 2, 0), (2, 1, 10**9), (2, 2, 10**9), (None, 1, 3)]}
        self.assert_results(report, database)
        sums = {(1,): 0, (2,): 2 * 10**9, (None,): 3}
        self.assertEqual(results(report, database)[:4], [sums, sums, 2 * 10**9 + 3, 2 * 10**9 + 3])
        report = report_of(SMALL, "from items i; by i.order; rows")
        self.assertEqual(joined(report, database), {(1,): 2, (2,): 2, (None,): 1})

    def test_rows_that_count_none_are_in_the_groups(self):
        report = report_of(SMALL, "from items i; by i.order; sum price")
        self.assertEqual(joined(report, {"orders": [], "items": [(1, 1, None)]}), {(1,): 0})
        self.assertEqual(counted(report, {"orders": [], "items": [(1, 1, 0)]}), {(1,): 0})

    def test_contradictory_filters(self):
        report = report_of(SMALL, "from items i; where i.order = 1; where i.order = 2; sum price")
        database = {"orders": [], "items": [(1, 1, 5), (2, 1, 6)]}
        self.assert_results(report, database, [])
        self.assertEqual(results(report, database), [{}, {}, 0, 0, []])

    def test_plain_sum_keeps_own_filters_and_no_links(self):
        report = report_of(SMALL, "from items i; join orders o; link i.order = o.id; link i.line = i.order; "
                                  "where i.line = 1; where o.customer = 5; sum price")
        database = {"orders": [(1, 6)], "items": [(1, 1, 5), (2, 1, 6), (1, 2, 7)]}
        self.assertEqual([plain_sum(report, database), total(report, database)], [11, 0])

    def test_databases_that_are_not_valid(self):
        report = report_of(SMALL, LINES + "by o.customer; sum id")
        database = {"orders": [(1, 5), (1, 6), (None, 5), (2, None)], "items": [(1, 1, 1), (2, 1, 1), (None, 1, None)]}
        self.assert_results(report, database, [
            {"o": (1, 5), "i": (1, 1, 1)}, {"o": (1, 6), "i": (1, 1, 1)}, {"o": (2, None), "i": (2, 1, 1)}])
        self.assertEqual(joined(report, database), {(5,): 1, (6,): 1, (None,): 2})

    def test_new_results_after_changes(self):
        report = report_of(SMALL, LINES + "by o.customer; sum id")
        database = {"orders": [(1, 5)], "items": [(1, 1, 20)]}
        first = results(report, database)
        self.assertEqual(first, [{(5,): 1}, {(5,): 1}, 1, 1, [((5,), (1, 5))]])
        for found in (joined(report, database), counted(report, database)):
            found[(5,)] = 9
            found[()] = 1
        pairs(report, database).append(1)
        self.assertEqual(results(report, database), first)
        database["items"].append((1, 2, 20))
        self.assertEqual(results(report, database), [{(5,): 2}, *first[1:]])
        database["items"].clear()
        self.assertEqual(results(report, database), [{}, {}, 0, 1, []])
        database["orders"].append((3, 3))
        database["items"].append((3, 1, 1))
        self.assertEqual(results(report, database), [{(3,): 3}, {(3,): 3}, 3, 4, [((3,), (3, 3))]])

    def test_twenty_links_and_five_filters(self):
        links = "; ".join(["link i.order = o.id; link o.id = i.order; link i.line = i.price; link o.id = o.id"] * 5)
        report = report_of(SMALL, f"from items i; join orders o; {links}; where i.order = 1; where i.line = 3; "
                                  "where i.price = 3; where o.id = 1; where o.customer = 9; rows")
        database = {"orders": [(1, 9), (2, 9)], "items": [(1, 3, 3), (1, 3, 4), (2, 3, 3), (1, 4, 4)]}
        self.assert_results(report, database, [{"i": (1, 3, 3), "o": (1, 9)}])

    def test_many_rows(self):
        orders = [(number, number // 10) for number in range(2000)]
        items = [(number // 2, number % 2, 1) for number in range(4000)]
        report = report_of(SMALL, "from items i; join orders o; join items j; join orders p; link i.order = o.id; "
                                  "link j.order = o.id; link p.id = j.order; by o.customer; sum price")
        database = {"orders": orders, "items": items}
        self.assertEqual(joined(report, database), {(group,): 40 for group in range(200)})
        self.assertEqual(counted(report, database), {(group,): 20 for group in range(200)})
        self.assertEqual([total(report, database), plain_sum(report, database)], [4000, 4000])


class ManyTest(ResultsCase):
    def test_many_reports_in_databases_of_all_kinds(self):
        found = 0
        for rng, report in some_cases("results", 400):
            for database in (any_database(rng, report.schema), some_database(rng, report.schema)):
                found += len(self.assert_results(report, database))
        self.assertGreater(found, 1000)

    def test_groups_are_the_same_ones(self):
        for rng, report in some_cases("groups", 200):
            database = any_database(rng, report.schema)
            told = list(joined(report, database))
            self.assertEqual(sorted(told, key=repr), sorted(counted(report, database), key=repr))
            self.assertEqual({group for group, _ in pairs(report, database)}, set(told))

    def test_other_orders_of_rows_change_no_result(self):
        for rng, report in some_cases("orders", 200):
            database = any_database(rng, report.schema)
            other = {name: rng.sample(database[name], len(database[name])) for name in rng.sample(
                list(database), len(database))}
            self.assertEqual(results(report, other), results(report, database))

    def test_more_links_and_filters_leave_some_of_the_pairs(self):
        left = [0, 0]
        for rng, report in some_cases("more", 200):
            database = any_database(rng, report.schema)
            rows = str(report).split("\n")
            for word in ("link", "where"):
                columns = [f"{alias}.{column}" for alias, column in columns_of(report)]
                last = rng.choice([str(rng.randrange(3))] if word == "where" else columns)
                many = 1 + len(report.aliases) + len(report.links) + (len(report.filters) if word == "where" else 0)
                text = "\n".join([*rows[:many], f"  {word} {rng.choice(columns)} = {last}", *rows[many:]])
                if len(report.links if word == "link" else report.filters) < (20 if word == "link" else 5):
                    other = Report.parse(report.schema, text)
                    found = set(pairs(other, database))
                    self.assertTrue(found <= set(pairs(report, database)))
                    left[found == set(pairs(report, database))] += 1
        self.assertTrue(min(left) > 20, left)

    def test_results_of_a_group_are_those_with_filters(self):
        seen = 0
        for rng, report in some_cases("filters", 600):
            database = any_database(rng, report.schema)
            rows = str(report).split("\n")
            many = 1 + len(report.aliases) + len(report.links) + len(report.filters)
            for group, value in joined(report, database).items():
                if None not in group and len(report.filters) + len(group) <= 5:
                    more = [f"  where {alias}.{column} = {cell}" for (alias, column), cell in zip(report.groups, group)]
                    other = Report.parse(report.schema, "\n".join([*rows[:many], *more, *rows[many:]]))
                    self.assertEqual(joined(other, database), {group: value})
                    self.assertEqual(counted(other, database), {group: counted(report, database)[group]})
                    self.assertEqual(set(pairs(other, database)),
                                     {pair for pair in pairs(report, database) if pair[0] == group})
                    seen += 1
        self.assertGreater(seen, 200)


if __name__ == "__main__":
    unittest.main()
