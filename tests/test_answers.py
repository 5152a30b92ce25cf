import copy
import unittest

from countonce.answers import (adds_up, canonical_database, counts_once, is_loss_answer, is_once_answer,
                               is_sum_answer, loses_none, row_at)
from countonce.databases import is_valid
from countonce.reports import Report
from countonce.schemas import Schema
from tests.plain import (is_plain_loss_answer, is_plain_once_answer, is_plain_sum_answer, plain_canonical)
from tests.samples import ANY_VALUES, SALES, SHOP, SMALL, TREE, WIDE, report_of

LINES = "from orders o; join items i; link i.order = o.id; "


class AnswersCase(unittest.TestCase):
    def assert_answers(self, report, expected):
        """Check the words of the three answers, and walk their evidence."""
        text = str(report)
        once, sums, loss = counts_once(report), adds_up(report), loses_none(report)
        self.assertEqual(" ".join([once[0], sums[0], loss[0]]), expected, text)
        self.assertTrue(is_plain_once_answer(report, once), once)
        self.assertTrue(is_plain_sum_answer(report, sums), sums)
        self.assertTrue(is_plain_loss_answer(report, loss), loss)
        self.assertIs(is_once_answer(report, once), True)
        self.assertIs(is_sum_answer(report, sums), True)
        self.assertIs(is_loss_answer(report, loss), True)
        self.assertEqual(str(report), text)

    def judge(self, report, value, expected):
        """Check what the judges of this class say of any value, and that they leave it as it is."""
        before = copy.deepcopy(value)
        for judge in self.judges:
            self.assertIs(judge(report, value), expected, value)
        self.assertIs(self.judges[0](report=report, value=value), expected)
        self.assertEqual(value, before)

    def judge_other_kinds(self, report):
        """Check values of every kind, alone and behind a word."""
        for value in ANY_VALUES:
            for other in (value, ("yes", value), ("no", value), ("yes", value, value, value),
                          ("no", value, value, value)):
                self.judge(report, other, False)


class ExamplesTest(AnswersCase):
    def setUp(self):
        self.schema = Schema.parse(SMALL)
        self.sales = Report.parse(self.schema, "report sales\n  from items i\n  join orders o\n"
                                               "  link i.order = o.id\n  by o.customer\n  sum price\nend")
        self.lines = Report.parse(
            self.schema, "report lines\n  from orders o\n  join items i\n  link i.order = o.id\n  rows\nend")

    def test_answers(self):
        self.assertEqual(counts_once(self.sales)[0], "yes")
        self.assertEqual(counts_once(self.lines)[0], "no")
        self.assertEqual(loses_none(self.sales)[1]["o"], (0,))
        self.assert_answers(self.sales, "yes yes yes")
        self.assert_answers(self.lines, "no yes no")

    def test_judged_values(self):
        self.assertIs(is_loss_answer(self.lines, ("no", {"orders": [(1, 5)], "items": []}, (1, 5), ("i", []))), True)
        first = {"o": (1, 5), "i": (1, 1, 20)}
        second = {"o": (1, 5), "i": (1, 2, 20)}
        database = {"orders": [(1, 5)], "items": [(1, 1, 20), (1, 2, 20)]}
        self.assertIs(is_once_answer(self.lines, ("no", database, first, second)), True)
        self.assertIs(is_once_answer(self.lines, ("yes", [])), False)

    def test_report_of_the_document(self):
        self.assert_answers(Report.parse(self.schema, SALES), "yes yes no")
        self.assert_answers(Report.parse(Schema.parse(SHOP), SALES), "yes yes no")


class WordsTest(AnswersCase):
    """The three answers, in words, of many kinds of reports."""

    def assert_words(self, schema, rows, expected):
        self.assert_answers(report_of(schema, rows), expected)

    def test_one_alias(self):
        for schema, table in ((SMALL, "orders"), (SMALL, "items"), (SHOP, "orders"), (TREE, "a"), (WIDE, "b")):
            self.assert_words(schema, f"from {table} i; rows", "yes yes yes")
        self.assert_words(SMALL, "from items i; by i.line; by i.order; by i.price; sum price", "yes yes yes")

    def test_one_alias_with_filters_and_links(self):
        self.assert_words(SMALL, "from items i; where i.line = 3; sum price", "yes yes yes")
        self.assert_words(SMALL, "from items i; link i.line = i.line; sum price", "yes yes yes")
        self.assert_words(SMALL, "from items i; link i.line = i.price; sum price", "yes yes no")
        self.assert_words(SMALL, "from items i; link i.line = i.price; where i.line = 1; rows", "yes yes no")
        self.assert_words(SMALL, "from items i; link i.line = i.price; where i.line = 1; where i.price = 1; rows",
                          "yes yes yes")

    def test_optional_reference_of_one_alias(self):
        self.assert_words(SHOP, "from orders o; link o.note = o.note; rows", "yes yes no")
        self.assert_words(SHOP, "from orders o; link o.note = o.note; where o.note = 4; rows", "yes yes yes")
        self.assert_words(SHOP, "from orders o; link o.note = o.id; where o.note = 4; where o.id = 4; rows",
                          "yes yes yes")

    def test_required_reference(self):
        self.assert_words(SHOP, "from items i; join orders o; join clients c; link i.order = o.id; "
                                "link o.customer = c.id; by c.name; by o.customer; sum price", "yes yes yes")
        self.assert_words(SHOP, "from orders o; join clients c; link c.id = o.customer; by c.name; rows", "yes yes yes")

    def test_optional_reference(self):
        rows = "from orders o; join orders p; link o.note = p.id; {}by p.customer; rows"
        self.assert_words(SHOP, rows.format(""), "yes yes no")
        self.assert_words(SHOP, rows.format("where o.note = 3; "), "yes yes yes")
        self.assert_words(SHOP, rows.format("where p.id = 3; "), "yes yes no")

    def test_reference_backwards(self):
        self.assert_words(SMALL, LINES + "rows", "no yes no")
        self.assert_words(SMALL, LINES + "by i.line; rows", "yes no no")
        self.assert_words(SMALL, LINES + "by i.price; rows", "no no no")
        self.assert_words(SMALL, LINES + "where i.line = 7; rows", "yes yes no")
        self.assert_words(SMALL, LINES + "link i.line = o.customer; by i.price; rows", "yes yes no")

    def test_no_link(self):
        self.assert_words(SMALL, "from orders o; join orders p; rows", "no yes yes")
        self.assert_words(SMALL, "from orders o; join items i; rows", "no yes no")
        self.assert_words(SMALL, "from items i; join orders o; rows", "no yes yes")
        self.assert_words(SMALL, "from items i; join orders o; by o.id; rows", "yes no yes")
        self.assert_words(SMALL, "from items i; join orders o; where o.id = 3; by o.customer; rows", "yes yes no")
        self.assert_words(SMALL, "from items i; join orders o; where o.id = 3; where i.order = 3; rows", "yes yes yes")

    def test_same_row_by_another_key(self):
        self.assert_words(WIDE, "from a i; join a j; link i.r = j.r; by j.p; sum q", "yes yes yes")
        self.assert_words(WIDE, "from a i; join a j; link i.q = j.q; link i.p = j.p; by j.r; sum q", "yes yes yes")
        self.assert_words(WIDE, "from a i; join a j; link i.q = j.q; by j.r; sum q", "yes no yes")
        self.assert_words(WIDE, "from a i; join a j; link i.q = j.q; by j.p; sum q", "yes no yes")
        self.assert_words(WIDE, "from a i; join a j; link i.q = j.q; sum q", "no yes yes")

    def test_references_of_two_columns(self):
        self.assert_words(WIDE, "from b i; join a j; link i.y = j.q; link i.x = j.p; by j.r; rows", "yes yes yes")
        self.assert_words(WIDE, "from b i; join a j; link i.y = j.p; link i.x = j.q; by j.r; rows", "yes yes no")
        self.assert_words(WIDE, "from b i; join a j; link i.v = j.q; link i.w = j.p; by j.r; rows", "yes yes no")
        self.assert_words(WIDE, "from b i; join a j; link i.v = j.q; link i.w = j.p; where i.v = 3; rows",
                          "yes yes yes")

    def test_a_path_of_two_references(self):
        self.assert_words(WIDE, "from c i; join b j; join a k; link i.b = j.k; link j.y = k.q; link j.x = k.p; "
                                "where i.b = 3; rows", "yes yes yes")
        self.assert_words(WIDE, "from c i; join c j; link i.up = j.k; where i.up = 1; where i.k = 1; rows",
                          "yes yes yes")
        self.assert_words(WIDE, "from c i; join c j; link i.up = j.k; link j.up = i.k; where i.up = 1; "
                                "where i.k = 1; rows", "yes yes yes")
        self.assert_words(WIDE, "from c i; join c j; link i.up = j.k; link j.up = i.k; where i.up = 2; "
                                "where i.k = 1; rows", "yes yes no")

    def test_four_aliases(self):
        rows = "from items i; join orders o; join clients c; join orders p; link i.order = o.id; link o.customer = c.id"
        self.assert_words(SHOP, f"{rows}; link p.customer = c.id; rows", "no yes yes")
        self.assert_words(SHOP, f"{rows}; link p.id = i.order; by p.id; rows", "yes yes yes")
        self.assert_words(SHOP, f"{rows}; link p.note = o.id; by p.id; rows", "yes no no")
        self.assert_words(SHOP, f"{rows}; link p.id = o.note; by p.id; rows", "yes yes no")

    def test_twenty_links_and_five_filters(self):
        links = "; ".join(["link i.order = o.id; link o.id = i.order; link i.order = i.order; link o.id = o.id"] * 5)
        filters = "where o.id = 3; where i.order = 3; where i.line = 3; where i.price = 3; where i.order = 3"
        self.assert_words(SMALL, f"from items i; join orders o; {links}; {filters}; by o.customer; rows", "yes yes yes")

    def test_contradictory_filters(self):
        for alias, expected in (("i", "yes yes yes"), ("o", "yes yes no")):
            column = {"i": "order", "o": "customer"}[alias]
            for values in ((1, 2), (2, 1), (0, 10**9)):
                self.assert_words(SMALL, f"from items i; join orders o; where {alias}.{column} = {values[0]}; "
                                         f"where {alias}.{column} = {values[1]}; by o.customer; rows", expected)
        self.assert_words(SMALL, "from items i; link i.order = i.line; where i.order = 1; where i.line = 2; rows",
                          "yes yes no")

    def test_empty_by_steps(self):
        self.assert_words(SMALL, "from orders o; join orders p; join items i; link o.id = p.id; "
                                 "where o.customer = 1; where p.customer = 2; by i.price; rows", "yes yes no")


class OnceTest(AnswersCase):
    judges = (is_once_answer, is_plain_once_answer)

    def test_steps(self):
        report = report_of(SHOP, "from items i; join orders o; join clients c; link i.order = o.id; "
                                 "link o.customer = c.id; rows")
        first, second = ("known", "o", ("id",)), ("known", "c", ("id",))
        self.judge(report, ("yes", [first, second]), True)
        self.judge(report, ("yes", [second, first]), False)
        self.judge(report, ("yes", [first]), False)
        self.judge(report, ("yes", [second]), False)
        self.judge(report, ("yes", []), False)
        self.judge(report, ("yes", [first, first, second, first, second]), True)
        self.judge(report, ("yes", [("known", "i", ("order", "line")), first, second]), True)
        self.judge(report, ("yes", [first, second, ("known", "c", ("name",))]), False)
        self.judge(report, ("yes", [first, second, ("known", "i", ("line", "order"))]), False)
        self.judge(report, ("yes", [("same", "o", "o", ("id",)), first, second]), False)
        for step in (("known", "o", ["id"]), ("known", "o", "id"), ["known", "o", ("id",)], ("Known", "o", ("id",)),
                     ("known", "o", ("id",), 1), ("known", "o"), ("known", "x", ("id",)), ("known", "orders", ("id",)),
                     ("known", ["o"], ("id",)), ("known", "o", ("customer",)), ("known", "o", ()), *ANY_VALUES):
            self.judge(report, ("yes", [step, second]), False)
            self.judge(report, ("yes", [first, second, step]), False)
        for value in (("yes", (first, second)), ["yes", [first, second]], ("yes", [first, second], None), ("yes",),
                      ("no", [first, second]), ("Yes", [first, second]), (True, [first, second]), [first, second]):
            self.judge(report, value, False)

    def test_steps_with_group_columns(self):
        report = report_of(SMALL, LINES + "by i.line; rows")
        self.judge(report, ("yes", [("known", "i", ("order", "line"))]), True)
        self.judge(report_of(SMALL, LINES + "by i.price; rows"), ("yes", [("known", "i", ("order", "line"))]), False)

    def test_same_steps(self):
        report = report_of(SMALL, "from items i; join orders o; join orders p; link o.id = p.id; "
                                  "link p.customer = i.line; where o.customer = 3; rows")
        same, known = ("same", "o", "p", ("id",)), ("known", "o", ("id",))
        self.judge(report, ("yes", [same]), False)
        self.judge(report, ("yes", [same, known]), False)
        report = report_of(SMALL, "from items i; join orders o; join orders p; link o.id = p.id; "
                                  "link p.id = i.order; rows")
        self.judge(report, ("yes", [known, ("known", "p", ("id",))]), True)
        self.judge(report, ("yes", [same, known]), False)
        self.judge(report, ("yes", [same, same, ("same", "p", "o", ("id",)), known, ("known", "p", ("id",))]), True)
        for step in (("same", "o", "o", ("id",)), ("same", "o", "i", ("id",)), ("same", "o", "p", ("customer",)),
                     ("same", "o", "p", ["id"]), ("same", "o", "p"), ("same", "o", "p", ("id",), ("id",)),
                     ("known", "o", "p", ("id",)), ("same", "o", ("id",)), ("same", "i", "i", ("order", "line")),
                     ("same", "o", "q", ("id",)), ("same", None, "p", ("id",)), ("same", "o", ["p"], ("id",))):
            self.judge(report, ("yes", [step, known, ("known", "p", ("id",))]), False)

    def test_known_only_by_steps_that_put_together(self):
        report = report_of(WIDE, "from a i; join a j; join c k; link i.r = j.r; link k.k = j.q; rows")
        self.judge(report, ("yes", [("known", "j", ("r",)), ("known", "k", ("k",))]), True)
        self.judge(report, ("yes", [("known", "k", ("k",)), ("known", "j", ("r",))]), False)
        self.judge(report, ("yes", [("same", "i", "j", ("r",)), ("known", "k", ("k",)), ("known", "j", ("r",))]), True)

    def test_empty_reports(self):
        report = report_of(SMALL, "from orders o; join items i; where i.line = 1; where i.line = 2; rows")
        self.judge(report, ("yes", []), True)
        self.judge(report, ("yes", [("known", "i", ("order", "line"))]), False)
        report = report_of(SMALL, "from items i; join orders o; join orders p; link o.id = p.id; "
                                  "where o.customer = 1; where p.customer = 2; rows")
        self.judge(report, ("yes", []), False)
        self.judge(report, ("yes", [("same", "p", "o", ("id",))]), True)
        self.judge(report, ("yes", [("same", "p", "o", ("id",)), ("known", "o", ("id",))]), False)

    def test_matches(self):
        report = report_of(SMALL, LINES + "by i.price; rows")
        one, two = {"o": (1, 5), "i": (1, 1, 20)}, {"o": (1, 5), "i": (1, 2, 20)}
        other, more = {"o": (1, 5), "i": (1, 3, 30)}, {"o": (2, 5), "i": (2, 1, 20)}
        database = {"orders": [(1, 5), (2, 5)], "items": [(1, 1, 20), (1, 2, 20), (1, 3, 30), (2, 1, 20)]}
        self.judge(report, ("no", database, one, two), True)
        self.judge(report, ("no", database, two, one), True)
        self.judge(report, ("no", database, one, one), False)
        self.judge(report, ("no", database, one, other), False)
        self.judge(report, ("no", database, one, more), False)
        for match in ({"o": (1, 5)}, {"o": (1, 5), "i": (1, 2, 20), "x": (1, 5)}, {"o": (1, 5), "i": (1, 2, 21)},
                      {"o": (1, 5), "i": [1, 2, 20]}, {"o": (1, 5), "i": (True, 2, 20)},
                      {"o": (True, 5), "i": (1, 2, 20)}, {"o": (1, 5), "i": (2, 1, 20)}, {"i": (1, 2, 20), "x": (1, 5)},
                      [("o", (1, 5)), ("i", (1, 2, 20))], ((1, 5), (1, 2, 20)), *ANY_VALUES):
            self.judge(report, ("no", database, one, match), False)
            self.judge(report, ("no", database, match, one), False)
        for value in (("no", database, one), ("no", database, one, two, None), ["no", database, one, two],
                      ("yes", database, one, two), ("no", one, two, database),
                      ("no", list(database.items()), one, two)):
            self.judge(report, value, False)

    def test_databases(self):
        report = report_of(SMALL, LINES + "rows")
        one, two = {"o": (1, 5), "i": (1, 1, 20)}, {"o": (1, 5), "i": (1, 2, 20)}
        items = [(1, 1, 20), (1, 2, 20)]
        self.judge(report, ("no", {"orders": [(1, 5)], "items": items}, one, two), True)
        self.judge(report, ("no", {"items": items[::-1], "orders": [(7, 7), (1, 5)]}, one, two), True)
        for orders in ([], [(1, 6)], [(1, 5), (1, 6)], [(1, 5), (None, 6)], [(1, 5), (1, 5)], [(1, 5), (True, 5)],
                       ((1, 5),), [[1, 5]], None):
            self.judge(report, ("no", {"orders": orders, "items": items}, one, two), False)
        self.judge(report, ("no", {"orders": [(1, 5)], "items": items + [(2, 1, 1)]}, one, two), False)
        self.judge(report, ("no", {"orders": [(1, 5)], "items": items, "more": []}, one, two), False)
        self.judge(report, ("no", {"items": items}, one, two), False)
        for value in ANY_VALUES:
            self.judge(report, ("no", value, one, two), False)

    def test_matches_with_an_optional_reference(self):
        report = report_of(TREE, "from a i; join a j; link i.y = j.y; rows")
        database = {"a": [(1, 2, None), (2, None, None), (3, 2, None)]}
        rows = database["a"]
        self.judge(report, ("no", database, {"i": rows[0], "j": rows[0]}, {"i": rows[0], "j": rows[2]}), True)
        self.judge(report, ("no", database, {"i": rows[1], "j": rows[1]}, {"i": rows[1], "j": rows[1]}), False)
        one, two = (1, None, None), (2, None, None)
        self.judge(report, ("no", {"a": [one, two]}, {"i": one, "j": one}, {"i": one, "j": two}), False)

    def test_other_kinds(self):
        self.judge_other_kinds(report_of(SMALL, LINES + "rows"))


class SumTest(AnswersCase):
    judges = (is_sum_answer, is_plain_sum_answer)

    def test_steps(self):
        report = report_of(SHOP, "from items i; join orders o; join clients c; link i.order = o.id; "
                                 "link o.customer = c.id; by i.price; by c.name; by o.id; rows")
        first, second = ("known", "o", ("id",)), ("known", "c", ("id",))
        self.judge(report, ("yes", [first, second]), True)
        self.judge(report, ("yes", [second, first]), False)
        self.judge(report, ("yes", [first]), False)
        self.judge(report, ("yes", []), False)
        self.judge(report, ("yes", [first, second, first]), True)
        for value in (("yes", (first, second)), ["yes", [first, second]], ("yes", [first, second, None])):
            self.judge(report, value, False)

    def test_group_columns_are_not_known_at_first(self):
        report = report_of(SMALL, LINES + "by i.line; rows")
        self.judge(report, ("yes", [("known", "i", ("order", "line"))]), False)
        self.judge(report, ("yes", []), False)
        self.judge(report_of(SMALL, LINES + "by i.order; rows"), ("yes", []), True)
        self.judge(report_of(SMALL, LINES + "where i.line = 1; by i.line; rows"), ("yes", []), True)
        report = report_of(SMALL, LINES + "where i.line = 1; by i.price; rows")
        self.judge(report, ("yes", []), False)
        self.judge(report, ("yes", [("known", "i", ("order", "line"))]), True)

    def test_other_aliases_need_not_be_known(self):
        self.judge(report_of(SMALL, LINES + "by o.customer; rows"), ("yes", []), True)
        self.judge(report_of(SMALL, LINES + "rows"), ("yes", []), True)

    def test_steps_that_put_together(self):
        report = report_of(WIDE, "from a i; join a j; link i.r = j.r; by j.q; rows")
        self.judge(report, ("yes", []), False)
        self.judge(report, ("yes", [("same", "j", "i", ("r",))]), True)
        self.judge(report, ("yes", [("known", "j", ("r",))]), True)
        self.judge(report, ("yes", [("same", "j", "i", ("q", "p"))]), False)
        self.judge(report, ("yes", [("same", "j", "i", ("r",)), ("same", "j", "i", ("q", "p"))]), True)
        self.judge(report, ("yes", [("same", "j", "i", ("r",)), ("same", "j", "i", ("p", "q"))]), False)

    def test_empty_reports(self):
        report = report_of(SMALL, "from items i; join orders o; join orders p; link o.id = p.id; "
                                  "where o.customer = 1; where p.customer = 2; by o.id; rows")
        self.judge(report, ("yes", []), False)
        self.judge(report, ("yes", [("same", "p", "o", ("id",))]), True)

    def test_matches(self):
        report = report_of(SMALL, LINES + "by i.price; by o.id; rows")
        one, two = {"o": (1, 5), "i": (1, 1, 20)}, {"o": (1, 5), "i": (1, 2, 20)}
        other, more = {"o": (1, 5), "i": (1, 3, 30)}, {"o": (2, 5), "i": (2, 1, 40)}
        database = {"orders": [(1, 5), (2, 5)], "items": [(1, 1, 20), (1, 2, 20), (1, 3, 30), (2, 1, 40)]}
        self.judge(report, ("no", database, one, other), True)
        self.judge(report, ("no", database, other, two), True)
        self.judge(report, ("no", database, one, two), False)
        self.judge(report, ("no", database, one, one), False)
        self.judge(report, ("no", database, one, more), False)
        self.judge(report, ("no", {**database, "orders": [(1, 5)]}, one, other), False)
        for match in ({"o": (1, 5)}, {"o": (1, 5), "i": (1, 3, 31)}, {"o": (1, 5), "i": (True, 3, 30)}, *ANY_VALUES):
            self.judge(report, ("no", database, one, match), False)
            self.judge(report, ("no", database, match, one), False)

    def test_other_kinds(self):
        self.judge_other_kinds(report_of(SMALL, LINES + "by i.line; rows"))


class LossTest(AnswersCase):
    judges = (is_loss_answer, is_plain_loss_answer)

    def test_paths(self):
        report = report_of(SHOP, "from items i; join orders o; join clients c; link i.order = o.id; "
                                 "link o.customer = c.id; rows")
        right = {"i": (), "o": (0,), "c": (0, 0)}
        self.assertEqual(loses_none(report), ("yes", right))
        self.judge(report, ("yes", right), True)
        for alias, path in (("o", ()), ("o", (1,)), ("o", (0, 0)), ("o", (0, 1)), ("o", (-1,)), ("o", [0]), ("o", 0),
                            ("o", (False,)), ("o", ("0",)), ("o", None), ("o", (10**5000,)),
                            ("c", (0,)), ("c", (0, 1)), ("c", (0, 0, 0)), ("c", ((0, 0),)), ("c", (0, 2)),
                            ("i", (0,)), ("i", []), ("i", None), *[("o", value) for value in ANY_VALUES]):
            self.judge(report, ("yes", {**right, alias: path}), False)
        self.judge(report, ("yes", {"i": (), "o": (0,)}), False)
        self.judge(report, ("yes", {**right, "more": ()}), False)
        self.judge(report, ("yes", {**right, None: ()}), False)
        self.judge(report, ("yes", {"i": (), "o": (0,), "x": (0, 0)}), False)
        for value in (None, [], list(right.items()), [right], True):
            self.judge(report, ("yes", value), False)
        for value in (("yes", right, None), ["yes", right], ("no", right), ("yes",), right):
            self.judge(report, value, False)

    def test_measured_alias_has_the_empty_path(self):
        report = report_of(WIDE, "from c i; where i.up = 4; where i.k = 4; rows")
        self.assertEqual(loses_none(report), ("yes", {"i": ()}))
        self.judge(report, ("yes", {"i": (0,)}), False)
        report = report_of(WIDE, "from c i; join c j; where i.up = 4; where i.k = 4; rows")
        for path in ((), (0,), (0, 0, 0), (0,) * 1000):
            self.judge(report, ("yes", {"i": (), "j": path}), True)
        self.judge(report, ("yes", {"i": (), "j": (1,)}), False)
        self.judge(report, ("yes", {"i": (), "j": (0,) * 1000 + (1,)}), False)

    def test_optional_reference_is_followed_only_with_a_filter(self):
        report = report_of(WIDE, "from c i; join c j; where i.up = 4; rows")
        self.judge(report, ("yes", {"i": (), "j": (0,)}), True)
        self.judge(report, ("yes", {"i": (), "j": (0, 0)}), False)
        self.judge(report, ("yes", {"i": (), "j": (1,)}), False)
        report = report_of(WIDE, "from c i; join c j; rows")
        self.judge(report, ("yes", {"i": (), "j": (0,)}), False)
        self.judge(report, ("yes", {"i": (), "j": ()}), True)

    def test_rows_of_another_table_do_not_count(self):
        schema = "table a\n  column k\n  key k\nend\ntable b\n  column k\n  key k\n  ref k -> a\nend"
        report = report_of(schema, "from b i; join b j; join a k; rows")
        self.judge(report, ("yes", {"i": (), "j": (), "k": (0,)}), True)
        self.judge(report, ("yes", {"i": (), "j": (0,), "k": (0,)}), False)
        self.judge(report, ("yes", {"i": (), "j": (), "k": ()}), False)

    def test_contradictory_filters_of_the_measured_alias(self):
        report = report_of(SMALL, "from items i; join orders o; where i.line = 1; where i.line = 2; rows")
        self.assertEqual(loses_none(report), ("yes", None))
        self.judge(report, ("yes", None), True)
        for value in ({"i": (), "o": (0,)}, {}, [], False, (), ""):
            self.judge(report, ("yes", value), False)
        self.judge(report, ("no", {"orders": [], "items": []}, (1, 1, 1), ("o", [])), False)
        self.judge(report, ("no", {"orders": [(1, 1)], "items": [(1, 1, 1)]}, (1, 1, 1), ("filter", 1)), False)

    def test_other_contradictions_lose_rows(self):
        report = report_of(SMALL, "from items i; join orders o; where o.id = 1; where o.id = 2; rows")
        self.judge(report, ("yes", None), False)
        database = {"orders": [(1, 5)], "items": [(1, 1, 1)]}
        self.judge(report, ("no", database, (1, 1, 1), ("o", [("filter", 1)])), True)
        self.judge(report, ("no", database, (1, 1, 1), ("o", [("filter", 0)])), False)

    def test_trees(self):
        report = report_of(SMALL, "from orders o; join items i; join items j; link i.order = o.id; "
                                  "link j.order = i.order; where i.line = 1; where j.line = 2; rows")
        database = {"orders": [(1, 5), (2, 5)], "items": [(1, 1, 9), (2, 2, 9)]}
        after = ("i", [("j", [("filter", 1), ("link", 1)]), ("link", 0)])
        self.judge(report, ("no", database, (1, 5), after), True)
        self.judge(report, ("no", database, (1, 5), ("j", [("filter", 1), ("i", [("link", 1), ("filter", 0)])])), True)
        self.judge(report, ("no", database, (1, 5), ("j", [("filter", 1), ("i", [("link", 1), ("link", 0)])])), True)
        self.judge(report, ("no", database, (2, 5), ("i", [("link", 0), ("filter", 0)])), True)
        self.judge(report, ("no", database, (2, 5), after), False)
        for tree in (("i", [("link", 0), ("link", 0)]), ("i", [("j", [("filter", 1), ("link", 0)]), ("link", 0)]),
                     ("i", [("j", [("filter", 0), ("link", 1)]), ("link", 0)]),
                     ("i", [("j", [("filter", 1), ("link", 1)])]), ("i", [after[1][0], ("link", 0), ("link", 0)]),
                     ("i", [("link", 0), after[1][0]]), ("i", (after[1][0], ("link", 0))), ["i", after[1]],
                     ("i", [("i", [("filter", 1), ("link", 1)]), ("link", 0)]), ("o", [after, after]),
                     ("i", [("j", [("filter", True), ("link", 1)]), ("link", 0)]),
                     ("i", [("j", [("filter", 1), ("link", 1)]), ("link", False)]),
                     ("i", [("j", [("filter", 1), ("link", 1)]), ("link", -2)]),
                     ("i", [("j", [("filter", 1), ("link", 2)]), ("link", 0)]),
                     ("i", [("j", [("filter", 1), ("link", 1)]), ("group", 0)]),
                     ("i", [("j", [("filter", 1), ("link", 1), ]), ("link",)]), ("i", [after[1][0], ["link", 0]]),
                     ("link", 0), ("link", 1), ("filter", 0), ("items", after[1]), ("x", after[1]), ("i", []),
                     (None, after[1]), (["i"], after[1]), ("i", None), (*after, None), ("i",), after[1], *ANY_VALUES):
            self.judge(report, ("no", database, (1, 5), tree), False)

    def test_aliases_that_are_called_like_items(self):
        report = report_of(SMALL, "from orders group; join items link; join items filter; link link.order = group.id; "
                                  "link filter.order = group.id; where filter.line = 1; rows")
        database = {"orders": [(1, 5)], "items": [(1, 2, 9)]}
        self.judge(report, ("no", database, (1, 5), ("filter", [("filter", 0)])), True)
        self.judge(report, ("no", database, (1, 5), ("link", [("filter", [("filter", 0)])])), True)
        self.judge(report, ("no", database, (1, 5), ("link", [("filter", 0)])), False)
        self.judge(report, ("no", database, (1, 5), ("group", [("filter", [("filter", 0)])])), False)
        self.judge(report, ("no", {"orders": [(1, 5)], "items": []}, (1, 5), ("link", [])), True)
        self.assertTrue(is_plain_loss_answer(report, loses_none(report)))

    def test_items_at_the_root(self):
        report = report_of(SMALL, "from items i; link i.order = i.line; link i.line = i.price; rows")
        database = {"orders": [(1, 5)], "items": [(1, 1, 2)]}
        self.judge(report, ("no", database, (1, 1, 2), ("link", 1)), True)
        self.judge(report, ("no", database, (1, 1, 2), ("link", 0)), False)
        report = report_of(SHOP, "from orders o; link o.note = o.note; rows")
        database = {"clients": [(1, 1)], "orders": [(3, 1, None), (4, 1, 3)], "items": []}
        self.judge(report, ("no", database, (3, 1, None), ("link", 0)), True)
        self.judge(report, ("no", database, (4, 1, 3), ("link", 0)), False)

    def test_rows_and_databases(self):
        report = report_of(SMALL, LINES + "where o.customer = 5; rows")
        database = {"orders": [(1, 5), (2, 6)], "items": []}
        self.judge(report, ("no", database, (1, 5), ("i", [])), True)
        for row in ((2, 6), (2, 5), (3, 5), [1, 5], (True, 5), (1,), (1, 5, 0), None, "15"):
            self.judge(report, ("no", database, row, ("i", [])), False)
        for value in ANY_VALUES:
            if value != (1, 5):
                self.judge(report, ("no", database, value, ("i", [])), False)
            self.judge(report, ("no", value, (1, 5), ("i", [])), False)
        for other in ({"orders": [(1, 5), (1, 6)], "items": []}, {"orders": [(1, 5)]}, {"orders": [], "items": []},
                      {"orders": [(1, 5), (None, 6)], "items": []}, {"orders": [(1, 5)], "items": [], "more": []}):
            self.judge(report, ("no", other, (1, 5), ("i", [])), False)
        self.judge(report, ("no", {"orders": [(1, 5)], "items": [(2, 1, 1)]}, (1, 5), ("i", [("link", 0)])), False)
        self.judge(report, ("no", database, (1, 5), ("i", []), None), False)
        self.judge(report, ["no", database, (1, 5), ("i", [])], False)

    def test_other_kinds(self):
        self.judge_other_kinds(report_of(SMALL, LINES + "rows"))


class CanonicalTest(unittest.TestCase):
    def assert_canonical(self, report, many):
        """Check the canonical database; many has the number of rows of each table."""
        database, row = canonical_database(report)
        self.assertIs(type(canonical_database(report)), tuple)
        self.assertIs(is_valid(report.schema, database), True)
        self.assertEqual([len(database[table.name]) for table in report.schema.tables], many)
        self.assertIn(row, database[report.aliases[0][1]])
        grown, first = plain_canonical(report)
        renamed = {}
        self.match(report.schema, grown, (report.aliases[0][1], first), database, row, renamed)
        self.assertEqual(len(set(renamed.values())), len(renamed))
        self.assertFalse(set(renamed.values()) & {value for _, value in report.filters})
        self.assertEqual(canonical_database(report=report), (database, row))

    def match(self, schema, grown, at, database, row, renamed):
        """Check a row and those to which it refers; renamed has the cells of the new values met so far."""
        name, plain = at
        table = schema.table(name)
        self.assertIn(row, database[name])
        for column, cell in zip(table.columns, row):
            if type(plain[column]) is str:
                self.assertIs(type(cell), int)
                self.assertEqual(renamed.setdefault(plain[column], cell), cell)
            else:
                self.assertEqual(cell, plain[column])
        for number, (columns, target, _) in enumerate(table.refers):
            cells = [dict(zip(table.columns, row))[column] for column in columns]
            if None not in cells and grown.at(name, plain, (number,))[1] is not plain:
                places = [schema.table(target).columns.index(column) for column in schema.table(target).unique[0]]
                found = [other for other in database[target] if [other[place] for place in places] == cells]
                self.match(schema, grown, grown.at(name, plain, (number,)), database, found[0], renamed)

    def test_required_references(self):
        self.assert_canonical(report_of(SHOP, "from items i; rows"), [1, 1, 1])
        self.assert_canonical(report_of(SHOP, "from orders o; rows"), [1, 1, 0])
        self.assert_canonical(report_of(SHOP, "from clients c; join items i; where i.price = 0; rows"), [1, 0, 0])

    def test_optional_references(self):
        self.assert_canonical(report_of(SHOP, "from orders o; where o.note = 1; rows"), [2, 2, 0])
        self.assert_canonical(report_of(SHOP, "from orders o; where o.note = 1; where o.customer = 1; rows"), [2, 2, 0])
        self.assert_canonical(report_of(SHOP, "from orders o; where o.note = 1; where o.id = 1; rows"), [1, 1, 0])
        self.assert_canonical(
            report_of(SHOP, "from orders o; join orders p; link o.note = p.id; where p.note = 1; rows"), [1, 1, 0])
        self.assert_canonical(report_of(TREE, "from a i; where i.y = 1; where i.z = 1; rows"), [2])
        self.assert_canonical(report_of(TREE, "from a i; where i.y = 1; where i.z = 2; rows"), [3])
        self.assert_canonical(report_of(TREE, "from a i; where i.y = 1; where i.z = 2; where i.x = 2; rows"), [2])

    def test_references_of_two_columns(self):
        self.assert_canonical(report_of(WIDE, "from b i; rows"), [1, 1, 0])
        self.assert_canonical(report_of(WIDE, "from b i; where i.w = 0; rows"), [2, 1, 0])
        self.assert_canonical(report_of(WIDE, "from b i; where i.w = 0; where i.v = 0; where i.x = 0; rows"), [2, 1, 0])
        self.assert_canonical(report_of(
            WIDE, "from b i; where i.w = 0; where i.v = 0; where i.x = 0; where i.y = 0; rows"), [1, 1, 0])
        self.assert_canonical(report_of(
            WIDE, "from b i; where i.w = 0; where i.v = 1; where i.x = 1; where i.y = 0; rows"), [2, 1, 0])
        self.assert_canonical(report_of(WIDE, "from c i; where i.up = 2; where i.b = 2; rows"), [1, 1, 2])

    def test_new_values_are_in_no_filter_of_the_report(self):
        for values in ((0, 1, 2, 3, 4), (4, 2, 0, 1, 3), (10**9, 0, 5, 6, 7)):
            rows = "; ".join(f"where o.customer = {value}" for value in values)
            self.assert_canonical(report_of(SMALL, f"from items i; join orders o; {rows}; rows"), [1, 1])

    def test_a_key_that_refers(self):
        schema = ("table a\n  column k\n  column l\n  key k l\nend\n"
                  "table b\n  column p\n  column q\n  column r\n  key p q\n  key r\n  ref q p -> a\nend\n"
                  "table c\n  column k\n  column x\n  column y\n  key k\n  ref x y -> b\nend")
        self.assert_canonical(report_of(schema, "from c i; where i.x = 3; rows"), [1, 1, 1])

    def test_new_answers_each_time(self):
        report = report_of(SHOP, "from items i; rows")
        first = canonical_database(report)
        copied = copy.deepcopy(first)
        first[0]["orders"].clear()
        del first[0]["items"]
        self.assertEqual(canonical_database(report), copied)


class RowAtTest(unittest.TestCase):
    def test_paths(self):
        report = report_of(SHOP, "from items i; join clients c; rows")
        database = {"clients": [(1, 0), (2, 0)], "orders": [(7, 2, None), (8, 1, 7), (9, 1, 9)],
                    "items": [(8, 1, 0), (7, 1, 0), (9, 1, 0)]}
        before = copy.deepcopy(database)
        for row, path, expected in (
                ((8, 1, 0), (), (8, 1, 0)), ((8, 1, 0), (0,), (8, 1, 7)), ((8, 1, 0), (0, 0), (1, 0)),
                ((8, 1, 0), (0, 1), (7, 2, None)), ((8, 1, 0), (0, 1, 0), (2, 0)), ((8, 1, 0), (0, 1, 1), None),
                ((7, 1, 0), (0, 1), None), ((7, 1, 0), (0, 1, 0), None), ((7, 1, 0), (0, 1, 1, 1), None),
                ((9, 1, 0), (0,) + (1,) * 100, (9, 1, 9)), ((9, 1, 0), (0,) + (1,) * 100 + (0,), (1, 0))):
            self.assertEqual(row_at(report, database, row, path), expected)
            self.assertEqual(row_at(report=report, database=database, row=row, path=path), expected)
        self.assertEqual(database, before)

    def test_columns_of_the_reference_in_the_order_of_the_key(self):
        report = report_of(WIDE, "from b i; rows")
        database = {"a": [(1, 2, 5), (2, 1, 6)], "b": [(0, 1, 2, 1, 2), (1, 2, 1, None, None)], "c": []}
        self.assertEqual(row_at(report, database, (0, 1, 2, 1, 2), (0,)), (1, 2, 5))
        self.assertEqual(row_at(report, database, (0, 1, 2, 1, 2), (1,)), (2, 1, 6))
        self.assertIs(row_at(report, database, (1, 2, 1, None, None), (1,)), None)


if __name__ == "__main__":
    unittest.main()
