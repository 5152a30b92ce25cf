import itertools
import unittest

from countonce.classes import is_empty, same_class, same_steps
from countonce.results import matches
from tests.many import some_cases, some_database
from tests.plain import (after_same_step, are_one, cells_of, columns_of, first_blocks, is_plain_empty, is_same_step,
                         last_blocks, plain_matches)
from tests.samples import SHOP, SMALL, TREE, WIDE, report_of


class ClassesCase(unittest.TestCase):
    def assert_classes(self, report, classes=None):
        """Check same_class, is_empty and same_steps; classes are those of more than one column, as words."""
        text = str(report)
        blocks = last_blocks(report)
        columns = columns_of(report)
        for one, two in itertools.product(columns, columns):
            self.assertIs(same_class(report, one, two), are_one(blocks, one, two), (text, one, two))
        self.assertIs(is_empty(report), is_plain_empty(report), text)
        self.walk(report)
        if classes is not None:
            found = [[f"{alias}.{column}" for alias, column in columns if same_class(report, one, (alias, column))]
                     for one in columns]
            self.assertEqual(sorted(" ".join(words) for words in found if words[0] and len(words) > 1),
                             sorted(row for row in classes for _ in row.split()))
        self.assertEqual(str(report), text)

    def walk(self, report):
        """Check that same_steps lists allowed steps to the end, in a new list each time."""
        steps = same_steps(report)
        self.assertIs(type(steps), list)
        blocks = first_blocks(report)
        for step in steps:
            self.assertTrue(is_same_step(report, blocks, step), (str(report), steps))
            blocks = after_same_step(report, blocks, step)
        self.assertEqual(sorted(map(repr, map(sorted_block, blocks))),
                         sorted(map(repr, map(sorted_block, last_blocks(report)))))
        again = same_steps(report)
        again.append("more")
        self.assertEqual(same_steps(report), steps)


def sorted_block(block):
    return sorted(block, key=repr)


class LinksAndFiltersTest(ClassesCase):
    def test_links(self):
        report = report_of(SMALL, "from items i; join orders o; link i.order = o.id; link o.id = i.line; rows")
        self.assert_classes(report, ["i.order i.line o.id"])
        self.assertEqual(same_steps(report), [])
        self.assertIs(same_class(report, ("i", "line"), ("i", "order")), True)
        self.assertIs(same_class(report, ("i", "line"), ("o", "customer")), False)
        self.assertIs(same_class(report=report, column=("o", "customer"), other=("o", "customer")), True)

    def test_no_links(self):
        self.assert_classes(report_of(SMALL, "from items i; join items j; rows"), [])
        self.assert_classes(report_of(SMALL, "from items i; rows"), [])

    def test_links_of_a_column_with_itself(self):
        self.assert_classes(report_of(TREE, "from a i; join a j; link i.x = i.x; link j.y = j.y; rows"), [])

    def test_chains_of_links_in_any_order(self):
        links = ["link a.order = b.id", "link c.id = b.id", "link c.id = d.line", "link d.order = c.customer"]
        for order in itertools.permutations(links):
            rows = "; ".join(["from items a; join orders b; join orders c; join items d", *order, "rows"])
            self.assert_classes(report_of(SMALL, rows), [
                "a.order b.id c.id d.line", "b.customer c.customer d.order"])

    def test_filters_with_one_value_join_columns(self):
        report = report_of(SMALL, "from items i; join orders o; where i.price = 5; where o.customer = 5; "
                                  "where i.line = 6; rows")
        self.assert_classes(report, ["i.price o.customer"])
        self.assertIs(is_empty(report), False)

    def test_links_to_columns_with_values(self):
        report = report_of(SMALL, "from items i; join orders o; link i.line = i.price; link o.id = o.customer; "
                                  "where i.price = 0; where o.customer = 0; rows")
        self.assert_classes(report, ["i.line i.price o.id o.customer"])

    def test_most_links_and_filters(self):
        links = "; ".join(["link a.x = b.x", "link b.x = a.x", "link a.y = a.y", "link a.z = a.y"] * 5)
        filters = "where a.y = 1; where a.z = 1; where b.x = 2; where b.z = 1; where a.x = 2"
        self.assert_classes(report_of(TREE, f"from a b; join a a; {links}; {filters}; rows"),
                            ["b.x a.x", "b.y b.z a.y a.z"])


class StepsTest(ClassesCase):
    def test_one_step(self):
        report = report_of(SMALL, "from orders a; join orders b; link a.id = b.id; rows")
        self.assert_classes(report, ["a.id b.id", "a.customer b.customer"])
        self.assertIn(same_steps(report), ([("same", "a", "b", ("id",))], [("same", "b", "a", ("id",))]))

    def test_no_step_without_a_whole_key(self):
        self.assert_classes(report_of(SMALL, "from items a; join items b; link a.order = b.order; rows"),
                            ["a.order b.order"])
        self.assert_classes(report_of(SMALL, "from items a; join items b; link a.price = b.price; "
                                             "link a.line = b.line; rows"), ["a.price b.price", "a.line b.line"])

    def test_no_step_between_columns_of_a_key_that_are_exchanged(self):
        self.assert_classes(report_of(SMALL, "from items a; join items b; link a.order = b.line; "
                                             "link a.line = b.order; rows"), ["a.order b.line", "a.line b.order"])

    def test_a_key_of_two_columns(self):
        self.assert_classes(report_of(SMALL, "from items a; join items b; link a.order = b.order; "
                                             "link b.line = a.line; rows"),
                            ["a.order b.order", "a.line b.line", "a.price b.price"])

    def test_a_key_by_values(self):
        report = report_of(SMALL, "from items a; join items b; link a.order = b.order; "
                                  "where a.line = 2; where b.line = 2; rows")
        self.assert_classes(report, ["a.order b.order", "a.line b.line", "a.price b.price"])

    def test_no_step_between_two_tables(self):
        schema = "table a\n  column k\n  column v\n  key k\nend\ntable b\n  column k\n  column v\n  key k\nend"
        self.assert_classes(report_of(schema, "from a x; join b y; link x.k = y.k; rows"), ["x.k y.k"])
        self.assertEqual(same_steps(report_of(schema, "from a x; join b y; link x.k = y.k; rows")), [])

    def test_any_key_is_enough(self):
        one = report_of(WIDE, "from a i; join a j; link i.r = j.r; rows")
        self.assert_classes(one, ["i.p j.p", "i.q j.q", "i.r j.r"])
        two = report_of(WIDE, "from a i; join a j; link i.p = j.p; link i.q = j.q; rows")
        self.assert_classes(two, ["i.p j.p", "i.q j.q", "i.r j.r"])
        self.assertEqual([{step[3] for step in same_steps(report)} for report in (one, two)], [{("r",)}, {("q", "p")}])

    def test_optional_columns_of_one_row_are_in_one_class(self):
        report = report_of(TREE, "from a i; join a j; link i.x = j.x; rows")
        self.assert_classes(report, ["i.x j.x", "i.y j.y", "i.z j.z"])

    def test_a_step_allows_another_one(self):
        report = report_of(SHOP, "from orders a; join orders b; join clients c; join clients d; link a.id = b.id; "
                                 "link c.id = a.customer; link d.id = b.customer; rows")
        self.assert_classes(report, ["a.id b.id", "a.customer b.customer c.id d.id", "a.note b.note", "c.name d.name"])
        self.assertEqual(len(same_steps(report)), 2)

    def test_a_step_by_way_of_a_third_alias(self):
        schema = "table t\n  column k\n  column l\n  column v\n  key k\n  key l\nend"
        report = report_of(schema, "from t a; join t b; join t c; link a.k = c.k; link c.l = b.l; rows")
        self.assert_classes(report, ["a.k b.k c.k", "a.l b.l c.l", "a.v b.v c.v"])

    def test_four_aliases_of_one_table(self):
        report = report_of(TREE, "from a i; join a j; join a k; join a l; link i.y = j.x; link j.y = k.x; "
                                 "link k.y = l.x; link l.x = i.x; rows")
        self.assert_classes(report, ["i.x k.y l.x", "i.y j.x l.y", "i.z l.z", "j.y k.x"])


class EmptyTest(ClassesCase):
    def assert_empty(self, schema, rows, expected):
        report = report_of(schema, rows)
        self.assert_classes(report)
        self.assertIs(is_empty(report), expected)
        self.assertIs(is_empty(report=report), expected)

    def test_two_values_of_one_column(self):
        self.assert_empty(SMALL, "from orders o; where o.id = 1; where o.id = 2; rows", True)
        self.assert_empty(SMALL, "from orders o; where o.id = 1; where o.id = 1; rows", False)
        self.assert_empty(SMALL, "from orders o; where o.id = 1; where o.customer = 2; rows", False)
        self.assert_empty(SMALL, "from orders o; join items i; where i.line = 0; where i.line = 1; rows", True)

    def test_two_values_by_links(self):
        rows = "from orders o; join items i; link o.id = i.line; {}where o.id = 1; where i.price = 2; rows"
        self.assert_empty(SMALL, rows.format(""), False)
        self.assert_empty(SMALL, rows.format("link i.price = o.id; "), True)
        self.assert_empty(SMALL, rows.format("link i.order = o.customer; "), False)

    def test_two_values_by_one_value(self):
        self.assert_empty(SMALL, "from items i; where i.line = 1; where i.price = 1; where i.price = 2; rows", True)

    def test_two_values_by_a_step(self):
        rows = "from orders a; join orders b; {}where a.customer = 1; where b.customer = 2; rows"
        self.assert_empty(SMALL, rows.format(""), False)
        self.assert_empty(SMALL, rows.format("link a.id = b.id; "), True)

    def test_two_values_by_several_steps(self):
        rows = ("from orders a; join orders b; join clients c; join clients d; {}link c.id = a.customer; "
                "link d.id = b.customer; where c.name = 1; where d.name = 2; rows")
        self.assert_empty(SHOP, rows.format(""), False)
        self.assert_empty(SHOP, rows.format("link a.id = b.id; "), True)

    def test_a_reference_alone_is_no_contradiction(self):
        self.assert_empty(TREE, "from a i; link i.y = i.y; where i.y = 1; where i.x = 1; where i.z = 2; rows", False)


class ManyTest(ClassesCase):
    def test_many_reports(self):
        many = {True: 0, False: 0}
        for _, report in some_cases("classes", 300):
            self.assert_classes(report)
            many[is_empty(report)] += 1
            many[len(same_steps(report))] = many.get(len(same_steps(report)), 0) + 1
        self.assertTrue(many[True] > 20 and many[1] > 20 and many[2] > 5, many)

    def test_columns_of_one_class_have_equal_cells_in_valid_databases(self):
        found = 0
        for rng, report in some_cases("cells", 300):
            database = some_database(rng, report.schema)
            told = list(matches(report, database))
            self.assertEqual(told, plain_matches(report, database))
            self.assertFalse(told and is_empty(report))
            for match in told[:5]:
                cells = cells_of(report, match)
                for one, two in itertools.combinations(cells, 2):
                    if same_class(report, one, two):
                        self.assertEqual(cells[one], cells[two])
                        found += 1
        self.assertGreater(found, 100)


if __name__ == "__main__":
    unittest.main()
