import copy
import itertools
import random
import unittest

from countonce.databases import is_database, is_valid, violations
from countonce.schemas import Schema
from tests.plain import plain_violations
from tests.samples import ANY_VALUES, SHOP, SMALL, TREE, WIDE, nested


def empty(schema):
    return {table.name: [] for table in schema.tables}


class DatabaseCase(unittest.TestCase):
    def assert_found(self, schema, database, expected):
        """Check the violations of a database, in any order, and that all stays as it is."""
        before = copy.deepcopy(database)
        order = list(database)
        self.assertIs(is_database(schema, database), True)
        found = list(violations(schema, database))
        self.assertEqual(sorted(found, key=repr), sorted(expected, key=repr))
        self.assertTrue(all(type(one) is tuple for one in found))
        self.assertIs(is_valid(schema, database), not expected)
        self.assertEqual(sorted(violations(schema, database), key=repr), sorted(expected, key=repr))
        self.assertEqual([database, list(database)], [before, order])


class IsDatabaseTest(unittest.TestCase):
    def setUp(self):
        self.schema = Schema.parse(SMALL)
        self.right = {"orders": [(1, 5)], "items": [(1, 1, 20), (1, 2, 20)]}

    def assert_none(self, value):
        self.assertIs(is_database(self.schema, value), False, value)

    def test_databases(self):
        self.assertIs(is_database(self.schema, self.right), True)
        self.assertIs(is_database(schema=self.schema, value=self.right), True)
        for value in ({"orders": [], "items": []}, {"items": [], "orders": []}, {"orders": [(0, 0)], "items": []},
                      {"orders": [(10**9, 10**9)], "items": []}, {"orders": [], "items": [(0, 10**9, 1)]}):
            self.assertIs(is_database(self.schema, value), True, value)

    def test_databases_that_are_not_valid(self):
        for value in ({"orders": [(1, 5), (1, 6)], "items": []}, {"orders": [], "items": [(1, 1, 20)]},
                      {"orders": [(None, None)], "items": []}, {"orders": [], "items": [(None, 1, None)]}):
            self.assertIs(is_database(self.schema, value), True, value)
            self.assertIs(is_valid(self.schema, value), False, value)

    def test_tables_less_or_more(self):
        self.assert_none({})
        self.assert_none({"orders": [(1, 5)]})
        self.assert_none({"items": []})
        for key in ("more", "", "Orders", 0, None, True, (), ("orders",)):
            self.assert_none({**self.right, key: []})
            self.assert_none({"orders": [(1, 5)], key: []})

    def test_other_kinds(self):
        for value in [*ANY_VALUES, "items", list(self.right.items()), tuple(self.right.items()), [self.right],
                      (self.right,), list(self.right), str(self.right)]:
            self.assert_none(value)

    def test_other_lists_of_rows(self):
        for value in ANY_VALUES:
            if value not in ([], [(1, 5)]):
                self.assert_none({**self.right, "orders": value})
                self.assert_none({"orders": [], "items": value})
        for value in (((1, 5),), {(1, 5): True}, {0: (1, 5)}, "15", None, (), {}):
            self.assert_none({**self.right, "orders": value})

    def test_other_rows(self):
        for row in ANY_VALUES:
            if row != (1, 5):
                self.assert_none({"orders": [row], "items": []})
                self.assert_none({"orders": [(7, 7), row], "items": []})
                self.assert_none({"orders": [row, (7, 7)], "items": []})
            self.assert_none({"orders": [], "items": [row]})
        for row in ((), (1,), (1, 2, 3), [1, 2], "12", {1: 2, 3: 4}, {"id": 1, "customer": 2}, ((1, 2),), ([1], 2)):
            self.assert_none({"orders": [row], "items": []})

    def test_other_cells(self):
        for cell in ANY_VALUES:
            right = cell is None or (type(cell) is int and 0 <= cell <= 10**9)
            for row in ((cell, 3), (3, cell)):
                self.assertIs(is_database(self.schema, {"orders": [row], "items": []}), right, row)
                self.assertIs(is_database(self.schema, {"orders": [(8, 8), row], "items": []}), right, row)
            self.assertIs(is_database(self.schema, {"orders": [], "items": [(1, cell, 1)]}), right, cell)
        for cell in (True, False, -1, 10**9 + 1, -10**9, 10**30, "1", "", (1,), [1], {1: 1}, b"1"):
            self.assert_none({"orders": [(1, cell)], "items": []})
            self.assert_none({"orders": [(cell, 1)], "items": []})

    def test_equal_rows(self):
        self.assert_none({"orders": [(1, 5), (1, 5)], "items": []})
        self.assert_none({"orders": [(1, 5), (2, 5), (1, 5)], "items": []})
        self.assert_none({"orders": [], "items": [(1, 1, 1), (1, 1, 1)]})
        self.assert_none({"orders": [(None, 1), (None, 1)], "items": []})
        self.assert_none({"orders": [(None, None), (2, 2), (None, None)], "items": []})

    def test_nested_fifty_levels_deep(self):
        for wrap in (lambda value: [value], lambda value: (value,), lambda value: {"orders": value},
                     lambda value: {1: value}, lambda value: [7, value], lambda value: (value, 5)):
            for depth in (1, 2, 3, 10, 30, 45):
                value = nested("inner", wrap, depth)
                self.assert_none(value)
                self.assert_none({"orders": [value], "items": []})
                self.assert_none({"orders": [value, value], "items": []})
                self.assert_none({"orders": [(value, value)], "items": []})
                self.assert_none({"orders": value, "items": value})
                self.assert_none({"orders": [(1, 5), (2, value)], "items": []})

    def test_value_stays_as_it_is(self):
        for value in (self.right, {"orders": [[1, 5]], "items": [(1, 1, True)]}):
            before = copy.deepcopy(value)
            is_database(self.schema, value)
            self.assertEqual(repr(value), repr(before))

    def test_schemas_of_one_table(self):
        schema = Schema.parse("table a\n  column x\n  key x\nend")
        self.assertIs(is_database(schema, {"a": [(1,), (2,)]}), True)
        for value in ({"a": [1]}, {"a": [(1, 2)]}, {"a": [()]}, {"b": [(1,)]}, {"a": [(1,), 2]}):
            self.assertIs(is_database(schema, value), False)


class CellTest(DatabaseCase):
    def test_none_where_it_may_not_be(self):
        schema = Schema.parse(SMALL)
        for row in ((None, 5), (1, None), (None, None)):
            self.assert_found(schema, {"orders": [row], "items": []}, [("cell", "orders", row)])
        row = (None, None, 20)
        self.assert_found(schema, {"orders": [], "items": [row]}, [("cell", "items", row)])
        rows = [(None, 1), (None, 2), (3, 3)]
        self.assert_found(schema, {"orders": rows, "items": []},
                          [("cell", "orders", rows[0]), ("cell", "orders", rows[1])])

    def test_optional_reference_without_none_or_all_none(self):
        schema = Schema.parse(WIDE)
        base = {**empty(schema), "a": [(1, 2, 3)]}
        self.assert_found(schema, {**base, "b": [(1, 1, 2, None, None), (2, 1, 2, 2, 1)]}, [])
        for row in ((1, 1, 2, None, 1), (1, 1, 2, 2, None)):
            self.assert_found(schema, {**base, "b": [row]}, [("cell", "b", row)])

    def test_once_for_a_row(self):
        schema = Schema.parse(WIDE)
        base = {**empty(schema), "a": [(1, 2, 3)]}
        for row in ((None, None, None, None, 1), (None, 1, 2, 1, None), (1, None, 2, None, None)):
            self.assert_found(schema, {**base, "b": [row]}, [("cell", "b", row)])
        row = (None, None, None)
        self.assert_found(schema, {**base, "c": [row]}, [("cell", "c", row)])

    def test_each_optional_reference_for_itself(self):
        schema = Schema.parse(WIDE)
        base = {**empty(schema), "a": [(1, 2, 3)], "b": [(7, 1, 2, None, None)]}
        self.assert_found(schema, {**base, "c": [(1, 1, None), (2, None, 7), (3, None, None), (4, 3, 7)]}, [])


class KeyTest(DatabaseCase):
    def test_earlier_row_first(self):
        schema = Schema.parse(SMALL)
        one, two = (1, 5), (1, 3)
        self.assert_found(schema, {"orders": [one, two], "items": []}, [("key", "orders", one, two, ("id",))])
        self.assert_found(schema, {"orders": [two, (9, 9), one], "items": []}, [("key", "orders", two, one, ("id",))])

    def test_each_two_rows(self):
        schema = Schema.parse(SMALL)
        rows = [(1, 5), (2, 5), (1, 6), (1, 7), (2, 6), (3, 5)]
        expected = [("key", "orders", rows[one], rows[two], ("id",)) for one, two in ((0, 2), (0, 3), (2, 3), (1, 4))]
        self.assert_found(schema, {"orders": rows, "items": []}, expected)

    def test_all_columns_of_a_key(self):
        schema = Schema.parse(SMALL)
        rows = [(1, 1, 5), (1, 2, 5), (2, 1, 5), (1, 1, 6)]
        self.assert_found(schema, {"orders": [(1, 1), (2, 1)], "items": rows},
                          [("key", "items", rows[0], rows[3], ("order", "line"))])

    def test_each_key(self):
        schema = Schema.parse(WIDE)
        one, two = (1, 2, 3), (1, 2, 4)
        self.assert_found(schema, {**empty(schema), "a": [one, two]}, [("key", "a", one, two, ("q", "p"))])
        one, two = (1, 2, 3), (2, 1, 3)
        self.assert_found(schema, {**empty(schema), "a": [one, two]}, [("key", "a", one, two, ("r",))])
        schema = Schema.parse("table a\n  column x\n  column y\n  column z\n  key x\n  key z y\nend")
        database = {"a": [(1, 2, 3), (4, 2, 3), (1, 3, 2)]}
        self.assert_found(schema, database, [("key", "a", (1, 2, 3), (4, 2, 3), ("z", "y")),
                                             ("key", "a", (1, 2, 3), (1, 3, 2), ("x",))])

    def test_both_keys_of_two_rows(self):
        schema = Schema.parse("table a\n  column x\n  column y\n  column z\n  key x\n  key y\nend")
        one, two = (1, 2, 3), (1, 2, 4)
        self.assert_found(schema, {"a": [one, two]}, [("key", "a", one, two, ("x",)), ("key", "a", one, two, ("y",))])

    def test_none_is_equal_to_nothing(self):
        schema = Schema.parse(SMALL)
        rows = [(None, 5), (None, 6)]
        self.assert_found(schema, {"orders": rows, "items": []}, [("cell", "orders", row) for row in rows])
        rows = [(1, None, 5), (1, None, 6), (None, None, 7)]
        self.assert_found(schema, {"orders": [(1, 1)], "items": rows}, [("cell", "items", row) for row in rows])


class ReferenceTest(DatabaseCase):
    def test_example_of_the_interface(self):
        database = {"orders": [(1, 5)], "items": [(1, 1, 20), (2, 1, 30)]}
        self.assert_found(Schema.parse(SMALL), database, [("reference", "items", (2, 1, 30), 0)])

    def test_other_columns_do_not_count(self):
        database = {"orders": [(1, 5), (5, 1)], "items": [(1, 1, 20), (5, 6, 7)]}
        self.assert_found(Schema.parse(SMALL), database, [])
        database = {"orders": [(1, 5)], "items": [(5, 1, 1)]}
        self.assert_found(Schema.parse(SMALL), database, [("reference", "items", (5, 1, 1), 0)])

    def test_both_kinds_by_their_numbers(self):
        schema = Schema.parse(SHOP)
        base = {"clients": [(5, 1)], "orders": [(1, 5, None)], "items": []}
        self.assert_found(schema, base, [])
        for row, numbers in (((2, 6, None), [0]), ((2, 5, 9), [1]), ((2, 6, 9), [0, 1]), ((2, 5, 1), []), ((2, 5,
                                                                                                            2), [])):
            database = {**base, "orders": [*base["orders"], row]}
            self.assert_found(schema, database, [("reference", "orders", row, number) for number in numbers])

    def test_numbers_in_the_order_of_the_schema(self):
        schema = Schema.parse(TREE)
        self.assert_found(schema, {"a": [(1, 1, 2)]}, [("reference", "a", (1, 1, 2), 1)])
        self.assert_found(schema, {"a": [(1, 2, 1)]}, [("reference", "a", (1, 2, 1), 0)])
        self.assert_found(schema, {"a": [(1, 2, 1), (2, None, 3)]}, [("reference", "a", (2, None, 3), 1)])

    def test_own_table(self):
        schema = Schema.parse(WIDE)
        base = empty(schema)
        self.assert_found(schema, {**base, "c": [(1, 2, None), (2, 1, None), (3, 3, None), (4, None, None)]}, [])
        row = (1, 2, None)
        self.assert_found(schema, {**base, "c": [row]}, [("reference", "c", row, 0)])

    def test_columns_in_order(self):
        schema = Schema.parse(WIDE)
        base = {**empty(schema), "a": [(1, 2, 3)]}
        self.assert_found(schema, {**base, "b": [(9, 1, 2, 2, 1)]}, [])
        for row, numbers in (((9, 2, 1, None, None), [0]), ((9, 1, 2, 1, 2), [1]), ((9, 2, 1, 1, 2), [0, 1]),
                             ((9, 1, 3, 2, 3), [0, 1])):
            self.assert_found(schema, {**base, "b": [row]}, [("reference", "b", row, number) for number in numbers])

    def test_main_key_and_no_other_one(self):
        schema = Schema.parse("table a\n  column x\n  column y\n  key x\n  key y\nend\n"
                              "table b\n  column k\n  key k\n  ref k -> a\nend")
        self.assert_found(schema, {"a": [(1, 2)], "b": [(1,)]}, [])
        self.assert_found(schema, {"a": [(1, 2)], "b": [(2,)]}, [("reference", "b", (2,), 0)])

    def test_none_refers_to_nothing(self):
        schema = Schema.parse(SMALL)
        row = (None, 1, 1)
        self.assert_found(schema, {"orders": [], "items": [row]}, [("cell", "items", row)])
        self.assert_found(schema, {"orders": [(None, 1)], "items": [row]},
                          [("cell", "items", row), ("cell", "orders", (None, 1))])
        schema = Schema.parse(WIDE)
        row = (1, 1, 2, None, 4)
        self.assert_found(schema, {**empty(schema), "a": [(1, 2, 3)], "b": [row]}, [("cell", "b", row)])


class ViolationsTest(DatabaseCase):
    def test_valid_databases(self):
        for text in (SMALL, SHOP, WIDE):
            schema = Schema.parse(text)
            self.assert_found(schema, empty(schema), [])
        self.assert_found(Schema.parse(SMALL), {"items": [(1, 1, 20), (1, 2, 20)], "orders": [(1, 5)]}, [])

    def test_arguments_by_name(self):
        schema = Schema.parse(SMALL)
        database = {"orders": [], "items": [(1, 1, 1)]}
        self.assertEqual(len(list(violations(schema=schema, database=database))), 1)
        self.assertIs(is_valid(schema=schema, database=database), False)

    def test_left_early_and_asked_again(self):
        schema = Schema.parse(SMALL)
        database = {"orders": [(1, 5), (1, 6), (None, 7)], "items": [(4, 1, 1), (4, 1, 2)]}
        full = list(violations(schema, database))
        self.assertEqual(len(full), 5)
        for count in range(5):
            asked = violations(schema, database)
            self.assertIs(iter(asked), asked)
            early = [next(asked) for _ in range(count)]
            self.assertEqual(early, full[:count])
            asked.close()
            self.assertEqual(list(violations(schema, database)), full)
        one, two = violations(schema, database), violations(schema, database)
        self.assertEqual([next(one), next(two), next(one), next(two)], [full[0], full[0], full[1], full[1]])

    def test_small_databases_of_random_rows(self):
        chance = random.Random(7)
        wrong = 0
        for text in (SMALL, SHOP, WIDE):
            schema = Schema.parse(text)
            for _ in range(400):
                cells = chance.choice([[1, 2], [1, 2, 3], [1, 2, None], [1, 2, 3, 4, 5, None], [0, 10**9]])
                database = {}
                for table in schema.tables:
                    rows = [tuple(chance.choice(cells) for _ in table.columns) for _ in range(chance.randrange(4))]
                    database[table.name] = list(dict.fromkeys(rows))
                expected = plain_violations(schema, database)
                wrong += len(expected) > 0
                self.assert_found(schema, database, expected)
        self.assertTrue(300 < wrong < 1190, wrong)

    def test_many_rows(self):
        schema = Schema.parse(SMALL)
        database = {"orders": [(at, at % 7) for at in range(5000)],
                    "items": [(at // 4, at % 4, 1) for at in range(20000)]}
        self.assertIs(is_valid(schema, database), True)
        database["items"].append((5000, 1, 1))
        self.assertEqual(list(violations(schema, database)), [("reference", "items", (5000, 1, 1), 0)])


if __name__ == "__main__":
    unittest.main()
