import copy
import unittest

from countonce.classes import is_empty
from countonce.determined import determined
from countonce.errors import TooManyColumns
from countonce.example import is_example, one_example
from countonce.lists import greatest_lists
from countonce.reports import Report
from countonce.schemas import Schema
from tests.many import changed, some_cases
from tests.plain import cells_of, columns_of, is_match_in, is_plain_database, plain_matches
from tests.plain_columns import is_plain_example, plain_determined, plain_open
from tests.samples import ANY_VALUES, SHOP, SMALL, TREE, WIDE, exact, report_of
from tests.test_determined import SALES
from tests.test_lists import FIVE


class ExampleCase(unittest.TestCase):
    def judge(self, report, value, expected):
        before, text = exact(value), str(report)
        self.assertIs(is_example(report, value), expected, value)
        self.assertIs(is_example(value=value, report=report), expected)
        self.assertIs(is_plain_example(report, value), expected, value)
        self.assertEqual(exact(value), before)
        self.assertEqual(str(report), text)

    def assert_example(self, report):
        """Check an example of a report, by going through all lists if there are few columns."""
        text = str(report)
        found = one_example(report=report)
        self.assertIs(type(found), tuple)
        database, told = found
        self.assertTrue(is_plain_database(report.schema, database))
        self.assertIs(type(told), list)
        self.assertTrue(all(is_match_in(report, database, match) for match in told))
        if len(columns_of(report)) <= 9:
            self.assertTrue(is_plain_example(report, found), found)
        self.assertIs(is_example(report, found), True)
        self.assertEqual(str(report), text)
        return found


class ExamplesTest(ExampleCase):
    def test_example(self):
        report = Report.parse(Schema.parse(SMALL), "report all\n  from orders o\n  rows\nend")
        one, two, three = {"o": (1, 5)}, {"o": (2, 5)}, {"o": (3, 6)}
        database = {"orders": [(1, 5), (2, 5), (3, 6)], "items": []}
        self.assertEqual([is_example(report, (database, [one, two, three])),
                          is_example(report, (database, [one, three]))], [True, False])


class OneTest(ExampleCase):
    def test_reports(self):
        for schema, rows in [
                (SMALL, "from orders o; rows"), (SMALL, "from items i; sum price"), (SMALL, SALES),
                (SMALL, "from orders o; join orders p; rows"), (SMALL, "from orders o; join items i; rows"),
                (SHOP, "from orders o; join orders p; link o.note = p.id; rows"), (TREE, "from a m; join a n; rows"),
                (TREE, "from a m; join a n; link m.y = n.x; rows"), (TREE, "from a m; link m.y = m.z; rows"),
                (WIDE, "from a m; rows"), (WIDE, "from b m; rows"), (WIDE, "from c m; join b n; link m.b = n.k; rows"),
                (SMALL, "from items i; join items j; link i.order = j.order; where i.line = 3; rows")]:
            self.assert_example(report_of(schema, rows))

    def test_empty_reports(self):
        report = report_of(SMALL, "from orders o; where o.id = 1; where o.id = 2; rows")
        self.assertEqual(self.assert_example(report)[1], [])

    def test_reports_without_open_columns(self):
        report = report_of(SMALL, "from orders o; where o.id = 1; rows")
        _, found = self.assert_example(report)
        self.assertLessEqual(len(found), 1)

    def test_matches_without_none(self):
        # A column that is None in all matches would be determined by the empty list.
        for schema, rows in ((TREE, "from a m; rows"), (SHOP, "from orders o; rows")):
            report = report_of(schema, rows)
            for column in columns_of(report):
                cells = {cells_of(report, match)[column] for match in one_example(report)[1]}
                self.assertGreater(len(cells - {None}), 0)
                self.assertGreater(len(cells), 1)

    def test_examples_are_new(self):
        report = report_of(SMALL, SALES)
        first = one_example(report)
        copied = copy.deepcopy(first)
        first[0].clear()
        for match in first[1]:
            match.clear()
        first[1].clear()
        self.assertEqual(one_example(report), copied)

    def test_four_aliases(self):
        report = report_of(SMALL, "from items i; join orders o; join orders p; join items j; link i.order = o.id; "
                                  "link j.order = p.id; rows")
        self.assert_example(report)


class ErrorsTest(ExampleCase):
    def test_twelve_and_thirteen_open_columns(self):
        rows = "from a m; join a n; join a o; where o.t = 1; where o.s = 1; "
        report = report_of(FIVE, rows + "where o.r = 1; rows")
        self.assertEqual(len(plain_open(report)), 12)
        found = self.assert_example(report)
        self.assertIs(is_example(report, (found[0], found[1][:-1])), False)
        for value in ANY_VALUES:
            self.assertIs(is_example(report, value), False)
        report = report_of(FIVE, rows + "rows")
        for call in (lambda: one_example(report), lambda: is_example(report, found),
                     *[lambda value=value: is_example(report, value) for value in ANY_VALUES]):
            with self.assertRaises(TooManyColumns) as caught:
                call()
            self.assertEqual(caught.exception.count, 13)

    def test_twenty_open_columns(self):
        report = report_of(FIVE, "from a m; join a n; join a o; join a p; rows")
        with self.assertRaises(TooManyColumns) as caught:
            one_example(report)
        self.assertEqual(caught.exception.count, 20)


class JudgeTest(ExampleCase):
    def test_lists_of_matches(self):
        report = report_of(SMALL, "from orders o; rows")
        rows = [(1, 5), (2, 5), (3, 6), (4, 6)]
        database = {"orders": rows, "items": []}
        one, two, three, four = [{"o": row} for row in rows]
        for found, expected in [
                ([one, two, three], True), ([three, one, two], True), ([one, two], False), ([one, three], False),
                ([one], False), ([], False), ([one, two, three, four], True), ([one, one, two, three, three], True),
                ([one, one, two], False), ([one, one], False), ([two, three, four], True)]:
            self.judge(report, (database, found), expected)

    def test_other_matches_in_the_database(self):
        report = report_of(SMALL, "from orders o; join orders p; link o.id = p.id; rows")
        database = {"orders": [(1, 5), (2, 5), (3, 6), (7, 7)], "items": [(7, 7, 7)]}
        found = [{"o": row, "p": row} for row in database["orders"][:3]]
        self.judge(report, (database, found), True)
        self.judge(report, (database, found[:2]), False)

    def test_matches_that_agree_too_much(self):
        report = report_of(SMALL, "from items i; rows")
        database = {"orders": [(1, 1), (2, 1), (3, 1)],
                    "items": [(1, 1, 20), (1, 2, 20), (2, 1, 20), (2, 2, 30), (3, 3, 30), (1, 3, 40), (3, 1, 50)]}
        self.judge(report, (database, [{"i": row} for row in database["items"]]), True)
        # In these, all matches agree on price wherever they agree on nothing else.
        self.judge(report, (database, [{"i": row} for row in database["items"][:3]]), False)
        for left in range(7):
            rows = [row for at, row in enumerate(database["items"]) if at != left]
            value = (database, [{"i": row} for row in rows])
            self.judge(report, value, is_plain_example(report, value))

    def test_none_agrees_with_none(self):
        schema = "table a\n  column x\n  column y\n  key x\n  optional y -> a\nend"
        report = report_of(schema, "from a m; rows")
        database = {"a": [(1, None), (2, None), (3, 1), (4, 1)]}
        one, two, three, four = [{"m": row} for row in database["a"]]
        self.judge(report, (database, [one, two, three]), True)
        self.judge(report, (database, [one, three, four]), True)
        self.judge(report, (database, [one, two]), False)
        self.judge(report, (database, [one, three]), False)
        report = report_of(schema, "from a m; link m.y = m.y; rows")
        self.judge(report, (database, [one, two, three]), False)
        self.judge(report, ({"a": [(1, 1), (2, 1), (3, 2)]}, [{"m": (1, 1)}, {"m": (2, 1)}, {"m": (3, 2)}]), True)

    def test_reports_without_open_columns(self):
        report = report_of(SMALL, "from orders o; where o.id = 1; rows")
        database = {"orders": [(1, 5), (2, 5)], "items": []}
        self.judge(report, (database, [{"o": (1, 5)}]), True)
        self.judge(report, (database, [{"o": (1, 5)}] * 3), True)
        self.judge(report, (database, []), True)
        self.judge(report, (database, [{"o": (2, 5)}]), False)

    def test_empty_reports(self):
        report = report_of(SMALL, "from orders o; where o.id = 1; where o.id = 2; rows")
        database = {"orders": [(1, 5), (2, 5)], "items": []}
        self.judge(report, (database, []), True)
        self.judge(report, ({"orders": [], "items": []}, []), True)
        self.judge(report, (database, [{"o": (1, 5)}]), False)
        self.judge(report, (database, None), False)
        self.judge(report, ({"orders": []}, []), False)

    def test_wrong_values(self):
        report = report_of(SMALL, "from orders o; rows")
        database = {"orders": [(1, 5), (2, 5), (3, 6)], "items": []}
        one, two, three = [{"o": row} for row in database["orders"]]
        found = [one, two, three]
        self.judge(report, (database, found), True)
        for value in ([database, found], (database, found, None), (database,), (found, database), database, found,
                      (database, (one, two, three)), (database, {0: one, 1: two}), (database, database),
                      (database, [*found, {"o": (4, 7)}]), (database, [*found, {"o": (True, 5)}]),
                      (database, [*found, {"o": [1, 5]}]), (database, [*found, {"o": (1, 5), "p": (1, 5)}]),
                      (database, [*found, {}]), (database, [*found, (1, 5)]), (database, [*found, None]),
                      ({**database, "orders": [(1, 5), (2, 5), (3, 6), (3, 7)]}, found),
                      ({**database, "items": [(4, 1, 1)]}, found), ({"orders": database["orders"]}, found),
                      ({**database, "orders": [(True, 5), (2, 5), (3, 6)]}, found), ({**database, "x": []}, found)):
            self.judge(report, value, False)
        for value in ANY_VALUES:
            for other in (value, (value, found), (database, value), (value, value), (database, [value]),
                          (database, [*found, value])):
                self.judge(report, other, False)


class ManyTest(ExampleCase):
    def test_many(self):
        seen = {}
        for _, report in some_cases("examples", 400):
            if len(plain_open(report)) <= 12:
                database, found = self.assert_example(report)
                self.assertEqual(found == [], is_empty(report))
                kind = min(len(found), 12)
                seen[kind] = seen.get(kind, 0) + 1
        self.assertTrue(len(seen) == 13 and min(seen.values()) > 4, seen)

    def test_examples_tell_what_is_determined(self):
        for rng, report in some_cases("told by examples", 250):
            if len(plain_open(report)) <= 12 and not is_empty(report):
                columns = columns_of(report)
                cells = [cells_of(report, match) for match in one_example(report)[1]]
                for _ in range(10):
                    chosen = rng.sample(columns, rng.randint(0, min(4, len(columns))))
                    kept = [column for column in columns if all(
                        one[column] == two[column] for one in cells for two in cells
                        if all(one[c] == two[c] for c in chosen))]
                    self.assertEqual(kept, determined(report, chosen))

    def test_one_match_less(self):
        # Without one of its matches, an example is none, or it is still told rightly that it is one.
        seen = {True: 0, False: 0}
        for rng, report in some_cases("less", 500):
            if len(columns_of(report)) <= 7:
                database, found = one_example(report)
                for left in range(len(found)):
                    value = (database, found[:left] + found[left + 1:])
                    expected = is_plain_example(report, value)
                    self.assertIs(is_example(report, value), expected)
                    seen[expected] += 1
        self.assertTrue(seen[True] > 10 and seen[False] > 100, seen)

    def test_matches_of_the_database_of_an_example(self):
        seen = {True: 0, False: 0}
        for rng, report in some_cases("any matches", 400):
            if len(columns_of(report)) <= 7:
                database, found = one_example(report)
                all_matches = plain_matches(report, database)[:40]
                for _ in range(4):
                    chosen = found + rng.sample(all_matches, rng.randint(0, min(3, len(all_matches))))
                    rng.shuffle(chosen)
                    value = (database, chosen)
                    expected = is_plain_example(report, value)
                    self.assertIs(is_example(report, value), expected)
                    seen[expected] += 1
        self.assertTrue(seen[True] > 100 and seen[False] >= 0, seen)

    def test_changed_examples(self):
        seen = {True: 0, False: 0}
        for rng, report in some_cases("changed examples", 400):
            if len(columns_of(report)) <= 6:
                value = one_example(report)
                pool = [*ANY_VALUES, *value, *value[1], *value[0].values()]
                for _ in range(8):
                    value = changed(rng, value, pool)
                    expected = is_plain_example(report, value)
                    self.assertIs(is_example(report, value), expected, (str(report.schema), str(report), value))
                    seen[expected] += 1
        self.assertTrue(min(seen.values()) > 20, seen)

    def test_greatest_lists_are_shown(self):
        for _, report in some_cases("greatest", 150):
            if len(plain_open(report)) <= 9:
                cells = [cells_of(report, match) for match in one_example(report)[1]]
                for column in plain_open(report):
                    for chosen in greatest_lists(report, column):
                        expected = plain_determined(report, chosen)
                        self.assertIn(expected, [[c for c in columns_of(report) if one[c] == two[c]]
                                                 for one in cells for two in cells])


if __name__ == "__main__":
    unittest.main()
