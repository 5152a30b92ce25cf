import copy
import random
import unittest

from countonce.answers import adds_up, counts_once
from countonce.determined import determined, determines, is_determined_answer
from countonce.errors import UnknownColumn
from countonce.reports import Report
from countonce.results import matches
from countonce.schemas import Schema
from tests.many import changed, some_cases, some_database
from tests.plain import cells_of, columns_of, is_plain_database, plain_matches
from tests.plain_columns import is_plain_determined_answer, plain_determined
from tests.samples import ANY_VALUES, SHOP, SMALL, TREE, WIDE, exact, report_of

SALES = "from items i; join orders o; link i.order = o.id; by o.customer; sum price"
# What is no column of this report, among them what only looks like one.
NO_COLUMNS = [("i", "customer"), ("o", "order"), ("x", "id"), ("I", "order"), ["i", "order"], ("i",), ("i", "order", "i"),
              ("items", "order"), "i.order", (("i", "order"),), [("i", "order")], ("order", "i"), ("i", ("order",)),
              ("i", None), (None, "order"), ("i", True), *ANY_VALUES]


class DeterminedCase(unittest.TestCase):
    def assert_raises(self, told, call, *values, **named):
        """Check that a call raises UnknownColumn with this column."""
        with self.assertRaises(UnknownColumn) as caught:
            call(*values, **named)
        self.assertEqual(exact(caught.exception.column), exact(told))

    def assert_determined(self, report, columns, expected):
        """Check the determined columns, in all that tells them."""
        text, before = str(report), list(columns)
        found = determined(report, columns)
        self.assertEqual(found, expected)
        self.assertIs(type(found), list)
        self.assertEqual(plain_determined(report, columns), expected)
        found.clear()
        self.assertEqual(determined(columns=columns, report=report), expected)
        for column in columns_of(report):
            answer = determines(report, columns, column)
            self.assertEqual(answer[0], "yes" if column in expected else "no")
            self.assertTrue(is_plain_determined_answer(report, columns, column, answer), answer)
            self.assertIs(is_determined_answer(report, columns, column, answer), True)
        self.assertEqual(columns, before)
        self.assertEqual(str(report), text)


class ExamplesTest(DeterminedCase):
    def test_example(self):
        schema = Schema.parse(SMALL)
        report = Report.parse(schema, "report sales\n  from items i\n  join orders o\n  link i.order = o.id\n"
                                      "  by o.customer\n  sum price\nend")
        self.assertEqual([determined(report, []), determined(report, [("i", "order")])],
                         [[], [('i', 'order'), ('o', 'id'), ('o', 'customer')]])


class ColumnsTest(DeterminedCase):
    def test_lists_of_one_report(self):
        report = report_of(SMALL, SALES)
        order, line, price, number, customer = columns_of(report)
        for columns, expected in [
                ([], []), ([line], [line]), ([price], [price]), ([customer], [customer]),
                ([number], [order, number, customer]), ([order], [order, number, customer]),
                ([line, order], columns_of(report)), ([line, number], columns_of(report)),
                ([customer, price, line], [line, price, customer]), ([customer, customer], [customer]),
                ([number, order, number], [order, number, customer]), (columns_of(report), columns_of(report))]:
            self.assert_determined(report, columns, expected)

    def test_the_measured_alias_has_no_special_part(self):
        report = report_of(SMALL, "from orders o; join items i; link i.order = o.id; by o.id; rows")
        self.assert_determined(report, [], [])
        self.assert_determined(report, [("i", "line")], [("i", "line")])
        self.assert_determined(report, [("i", "order")], [("o", "id"), ("o", "customer"), ("i", "order")])

    def test_values(self):
        report = report_of(SMALL, "from items i; join orders o; link i.order = o.id; where o.id = 7; rows")
        self.assert_determined(report, [], [("i", "order"), ("o", "id"), ("o", "customer")])
        self.assert_determined(report, [("i", "line")], columns_of(report))
        report = report_of(SMALL, "from items i; where i.order = 7; where i.line = 7; rows")
        self.assert_determined(report, [], columns_of(report))
        report = report_of(SMALL, "from items i; where i.price = 7; rows")
        self.assert_determined(report, [], [("i", "price")])

    def test_one_value_for_two_columns(self):
        report = report_of(SMALL, "from orders o; join orders p; where o.customer = 1; where p.id = 1; rows")
        self.assert_determined(report, [], [("o", "customer"), ("p", "id"), ("p", "customer")])

    def test_same_steps(self):
        rows = "from items i; join items j; link i.order = j.order; link i.line = j.line; rows"
        report = report_of(SMALL, rows)
        self.assert_determined(report, [("j", "price")], [("i", "price"), ("j", "price")])
        self.assert_determined(report, [("j", "line"), ("i", "order")], columns_of(report))

    def test_an_empty_report(self):
        report = report_of(SMALL, "from orders o; where o.id = 1; where o.id = 2; rows")
        self.assert_determined(report, [], columns_of(report))
        self.assert_determined(report, [("o", "customer")], columns_of(report))
        report = report_of(SMALL, "from items i; join items j; link i.order = j.order; link i.line = j.line; "
                                  "where i.price = 1; where j.price = 2; rows")
        self.assert_determined(report, [], columns_of(report))

    def test_optional_references(self):
        report = report_of(SHOP, "from orders o; join orders p; link o.note = p.id; rows")
        self.assert_determined(report, [("o", "note")], [("o", "note"), ("p", "id"), ("p", "customer"), ("p", "note")])
        self.assert_determined(report, [("p", "note")], [("p", "note")])
        report = report_of(TREE, "from a i; join a j; rows")
        self.assert_determined(report, [("i", "y")], [("i", "y")])
        self.assert_determined(report, [("i", "x")], [("i", "x"), ("i", "y"), ("i", "z")])

    def test_several_keys(self):
        report = report_of(WIDE, "from a i; rows")
        p, q, r = columns_of(report)
        self.assert_determined(report, [p], [p])
        self.assert_determined(report, [q], [q])
        self.assert_determined(report, [p, q], [p, q, r])
        self.assert_determined(report, [r], [p, q, r])

    def test_a_reference_alone_determines_nothing(self):
        report = report_of(SHOP, "from items i; join orders o; rows")
        self.assert_determined(report, [("i", "order")], [("i", "order")])

    def test_four_aliases(self):
        report = report_of(SHOP, "from items i; join orders o; join clients c; join clients d; link i.order = o.id; "
                                 "link o.customer = c.id; rows")
        self.assert_determined(report, [("i", "order"), ("d", "id")], [
            ("i", "order"), ("o", "id"), ("o", "customer"), ("o", "note"), ("c", "id"), ("c", "name"), ("d", "id"),
            ("d", "name")])

    def test_many(self):
        seen = {}
        for rng, report in some_cases("determined", 500):
            columns = columns_of(report)
            chosen = [rng.choice(columns) for _ in range(rng.choice([0, 0, 1, 1, 2, 3, 5]))]
            expected = plain_determined(report, chosen)
            self.assert_determined(report, chosen, expected)
            kind = (len(chosen) == 0, len(expected) == len(columns), len(set(expected) - set(chosen)) > 0)
            seen[kind] = seen.get(kind, 0) + 1
        self.assertTrue(len(seen) == 7 and min(seen.values()) > 10, seen)

    def test_matches_in_databases(self):
        seen = 0
        for rng, report in some_cases("agreeing", 400):
            columns = columns_of(report)
            chosen = [rng.choice(columns) for _ in range(rng.choice([0, 1, 1, 2, 3]))]
            expected = determined(report, chosen)
            for _ in range(3):
                database = some_database(rng, report.schema)
                met = {}
                for match in plain_matches(report, database)[:200]:
                    cells = cells_of(report, match)
                    first = met.setdefault(tuple(cells[c] for c in chosen), cells)
                    seen += first is not cells
                    self.assertEqual([first[c] for c in expected], [cells[c] for c in expected])
        self.assertGreater(seen, 1000)


class ErrorsTest(DeterminedCase):
    def test_unknown_columns(self):
        report = report_of(SMALL, SALES)
        for value in NO_COLUMNS:
            for columns in ([value], [("i", "order"), value], [value, ("i", "order")], [value, "x"], [value, value]):
                before = exact(columns)
                self.assert_raises(value, determined, report, columns)
                self.assert_raises(value, determines, report, columns, ("i", "order"))
                self.assert_raises(value, determines, report, columns, "x")
                self.assert_raises(value, is_determined_answer, report, columns, ("i", "order"), ("yes", []))
                self.assert_raises(value, is_determined_answer, report, columns, None, None)
                self.assertEqual(exact(columns), before)
            for columns in ([], [("i", "order")]):
                self.assert_raises(value, determines, report, columns, value)
                for answer in (("yes", []), None, determines(report, columns, ("i", "order"))):
                    self.assert_raises(value, is_determined_answer, report, columns, value, answer)

    def test_columns_of_an_empty_report(self):
        report = report_of(SMALL, "from orders o; where o.id = 1; where o.id = 2; rows")
        self.assert_raises(("i", "order"), determined, report, [("i", "order")])
        self.assert_raises(("i", "order"), determines, report, [], ("i", "order"))

    def test_parameters_by_name(self):
        report = report_of(SMALL, SALES)
        answer = determines(column=("o", "id"), columns=[("i", "order")], report=report)
        self.assertEqual(answer[0], "yes")
        self.assertIs(is_determined_answer(value=answer, column=("o", "id"), columns=[("i", "order")], report=report),
                      True)


class JudgeTest(DeterminedCase):
    def judge(self, report, columns, column, value, expected):
        before = exact([value, columns])
        self.assertIs(is_determined_answer(report, columns, column, value), expected, value)
        self.assertIs(is_plain_determined_answer(report, columns, column, value), expected, value)
        self.assertEqual(exact([value, columns]), before)

    def test_steps(self):
        report = report_of(SMALL, SALES)
        order, customer = ("i", "order"), ("o", "customer")
        known = ("known", "o", ("id",))
        self.judge(report, [order], customer, ("yes", [known]), True)
        self.judge(report, [order], customer, ("yes", [known, known]), True)
        self.judge(report, [order], ("o", "id"), ("yes", []), True)
        self.judge(report, [order], order, ("yes", []), True)
        self.judge(report, [], order, ("yes", []), False)
        self.judge(report, [order], customer, ("yes", []), False)
        self.judge(report, [], customer, ("yes", [known]), False)
        self.judge(report, [order], ("i", "line"), ("yes", [known]), False)
        for steps in ([("known", "o", ["id"])], [["known", "o", ("id",)]], [("known", "o", ("customer",))],
                      [("known", "x", ("id",))], [("known", "i", ("order", "line")), known], [known, None],
                      [("known", "o", ("id",), None)], (known,), {known: 1}, [known, ("same", "i", "i", ("id",))],
                      "known", [("known", "o", "id")], [("known", "o")], [("Known", "o", ("id",))]):
            self.judge(report, [order], customer, ("yes", steps), False)
            self.judge(report, [order], order, ("yes", steps), False)

    def test_steps_of_the_measured_alias(self):
        report = report_of(SMALL, SALES)
        steps = [("known", "i", ("order", "line"))]
        self.judge(report, [("i", "line"), ("o", "id")], ("i", "price"), ("yes", steps), True)
        # The measured alias is not known from the beginning.
        self.judge(report, [("i", "line")], ("i", "price"), ("yes", steps), False)
        self.judge(report, [("i", "line")], ("i", "price"), ("yes", []), False)
        # Nor are group columns.
        self.judge(report, [], ("o", "customer"), ("yes", []), False)

    def test_columns_that_get_a_value_by_steps(self):
        report = report_of(SMALL, "from orders o; join orders p; link o.id = p.id; where p.customer = 1; rows")
        same = ("same", "o", "p", ("id",))
        self.judge(report, [], ("o", "customer"), ("yes", [same]), True)
        self.judge(report, [], ("o", "customer"), ("yes", []), False)
        self.judge(report, [], ("p", "customer"), ("yes", []), True)
        self.judge(report, [], ("o", "id"), ("yes", [same]), False)

    def test_an_empty_report(self):
        report = report_of(SMALL, "from orders o; join orders p; link o.id = p.id; where p.customer = 1; "
                                  "where o.customer = 2; rows")
        same = ("same", "o", "p", ("id",))
        self.judge(report, [], ("o", "id"), ("yes", [same]), True)
        self.judge(report, [], ("o", "id"), ("yes", []), False)
        self.judge(report, [], ("o", "customer"), ("yes", []), True)

    def test_matches(self):
        report = report_of(SMALL, SALES)
        order, line, price, number, customer = columns_of(report)
        database = {"orders": [(1, 5), (2, 5)], "items": [(1, 1, 20), (1, 2, 20), (2, 1, 20)]}
        one, two = {"i": (1, 1, 20), "o": (1, 5)}, {"i": (1, 2, 20), "o": (1, 5)}
        three = {"i": (2, 1, 20), "o": (2, 5)}
        for columns, column, first, second, expected in [
                ([order], line, one, two, True), ([order], line, two, one, True), ([], line, one, two, True),
                ([order], price, one, two, False), ([line], order, one, two, False), ([], line, one, one, False),
                ([line, price, customer], order, one, three, True), ([line, price, customer], number, one, three, True),
                ([line, order], number, one, three, False), ([line], customer, one, three, False),
                ([line], line, one, two, False), ([order, line], price, one, two, False)]:
            self.judge(report, columns, column, ("no", database, first, second), expected)
        for other in ({"i": (1, 2, 20), "o": (2, 5)}, {"i": (1, 2, 20)}, {"i": (1, 3, 20), "o": (1, 5)},
                      {**two, "x": (1, 5)}, {"i": (1, 2, 20), "o": (True, 5)}, {"i": [1, 2, 20], "o": (1, 5)},
                      [two], (1, 2, 20), *ANY_VALUES):
            self.judge(report, [order], line, ("no", database, one, other), False)
            self.judge(report, [order], line, ("no", database, other, one), False)
        for other in ({**database, "orders": []}, {"items": database["items"]}, {**database, "x": []},
                      {**database, "orders": [(1, 5), (2, 5), (1, 6)]}, {**database, "orders": [(1, 5), (2, True)]},
                      {**database, "items": database["items"] * 2}, *ANY_VALUES):
            self.judge(report, [order], line, ("no", other, one, two), False)
        for value in (["no", database, one, two], ("no", database, one), ("no", database, one, two, None),
                      ("yes", database, one, two), ("no", one, two, database), ("NO", database, one, two)):
            self.judge(report, [order], line, value, False)

    def test_none_agrees_with_none(self):
        report = report_of(SHOP, "from orders o; rows")
        database = {"clients": [(1, 1)], "orders": [(1, 1, None), (2, 1, None), (3, 1, 1)], "items": []}
        one, two, three = [{"o": row} for row in database["orders"]]
        note, number = ("o", "note"), ("o", "id")
        self.judge(report, [note], number, ("no", database, one, two), True)
        self.judge(report, [note], number, ("no", database, one, three), False)
        self.judge(report, [], note, ("no", database, one, two), False)
        self.judge(report, [], note, ("no", database, one, three), True)
        self.judge(report, [("o", "customer")], note, ("no", database, three, two), True)

    def test_other_kinds(self):
        report = report_of(SMALL, SALES)
        for value in ANY_VALUES:
            for other in (value, ("yes", value), ("no", value), ("no", value, value, value), ("yes", value, value)):
                expected = other == ("yes", [])
                self.judge(report, [("i", "order")], ("o", "id"), other, expected)

    def test_changed_answers(self):
        seen = {}
        words = ["same", "known", "m", "link", "group", ("p",), ("q",), ("p", "q"), *ANY_VALUES]
        for rng, report in some_cases("changed determined", 250):
            columns = columns_of(report)
            for _ in range(6):
                chosen = [rng.choice(columns) for _ in range(rng.choice([0, 1, 2, 2, 3]))]
                column = rng.choice(columns)
                value = determines(report, chosen, column)
                pool = words + list(value)
                for _ in range(4):
                    value = changed(rng, value, pool)
                    expected = is_plain_determined_answer(report, chosen, column, value)
                    self.assertIs(is_determined_answer(report, chosen, column, value), expected, value)
                    kind = (value[0] if type(value) is tuple and value and value[0] in ("yes", "no") else "", expected)
                    seen[kind] = seen.get(kind, 0) + 1
        self.assertTrue(len(seen) == 5 and min(seen.values()) > 30, seen)


class FactsTest(DeterminedCase):
    """The facts of point 32 about one report."""

    def test_counting_once_and_adding_up(self):
        seen = {}
        for _, report in some_cases("facts", 500):
            columns = columns_of(report)
            own = [column for column in columns if column[0] == report.aliases[0][0]]
            once = determined(report, [*own, *report.groups]) == columns
            sums = all(column in determined(report, own) for column in report.groups)
            self.assertEqual([counts_once(report)[0], adds_up(report)[0]], ["yes" if once else "no",
                                                                            "yes" if sums else "no"])
            seen[once, sums] = seen.get((once, sums), 0) + 1
        self.assertTrue(len(seen) == 4 and min(seen.values()) > 10, seen)


class AnswersTest(DeterminedCase):
    def test_databases_of_answers(self):
        for rng, report in some_cases("told", 300):
            columns = columns_of(report)
            chosen = rng.sample(columns, rng.randint(0, min(3, len(columns))))
            column = rng.choice(columns)
            answer = determines(report, chosen, column)
            if answer[0] == "no":
                self.assertTrue(is_plain_database(report.schema, answer[1]))
                found = list(matches(report, answer[1]))
                self.assertTrue(answer[2] in found and answer[3] in found)

    def test_answers_are_new(self):
        for seed in range(40):
            rng = random.Random(f"new {seed}")
            for _, report in some_cases(f"new {seed}", 2):
                column = rng.choice(columns_of(report))
                first = determines(report, [], column)
                copied = copy.deepcopy(first)
                for part in first[1:]:
                    part.clear()
                self.assertEqual(determines(report, [], column), copied)


if __name__ == "__main__":
    unittest.main()
