import copy
import unittest

from countonce.dropping import can_drop, is_drop_answer, smaller, without
from countonce.errors import NeededAlias, UnknownAlias
from countonce.reports import Report
from countonce.schemas import Schema
from tests.plain import is_plain_drop_answer
from tests.samples import ANY_VALUES, SHOP, SMALL, TREE, WIDE, report_of

ITEMS = "from items i; join orders o; link i.order = o.id; "


class DroppingCase(unittest.TestCase):
    def assert_left(self, schema, rows, alias, expected):
        """Check the report without an alias by its rows."""
        report = report_of(schema, rows)
        text = str(report)
        found = without(report, alias)
        self.assertIs(type(found), Report)
        self.assertEqual(str(found), str(report_of(schema, expected)))
        self.assertTrue(found == report_of(schema, expected))
        self.assertTrue(Report.parse(report.schema, str(found)) == found)
        self.assertEqual(str(report), text)

    def assert_drop(self, schema, rows, alias, expected):
        """Check the word of an answer to the question whether an alias can be dropped, and walk its evidence."""
        report = report_of(schema, rows)
        text = str(report)
        answer = can_drop(report, alias)
        self.assertEqual(answer[0], expected, text)
        self.assertTrue(is_plain_drop_answer(without(report, alias), report, answer), (text, answer))
        self.assertIs(is_drop_answer(report, alias, answer), True)
        self.assertEqual(can_drop(report=report, alias=alias), answer)
        self.assertEqual(str(report), text)
        return answer

    def assert_judged(self, report, alias, value, expected):
        before = copy.deepcopy(value)
        self.assertIs(is_drop_answer(report, alias, value), expected, value)
        self.assertIs(is_drop_answer(report=report, alias=alias, value=value), expected, value)
        self.assertIs(is_plain_drop_answer(without(report, alias), report, value), expected, value)
        self.assertEqual(value, before)


class WithoutTest(DroppingCase):
    def test_example_of_the_interface(self):
        report = Report.parse(Schema.parse(SMALL), "report sales\n  from items i\n  join orders o\n"
                                                   "  link i.order = o.id\n  sum price\nend")
        self.assertEqual(str(without(report, "o")), "report sales\n  from items i\n  sum price\nend")
        self.assertEqual(str(without(report=report, alias="o")), "report sales\n  from items i\n  sum price\nend")
        self.assertEqual(without(report, "o").schema, report.schema)

    def test_aliases_groups_and_measure_stay(self):
        self.assert_left(SHOP, "from items i; join clients c; join orders o; join items j; by c.name; by j.line; "
                               "by i.line; sum price", "o",
                         "from items i; join clients c; join items j; by c.name; by j.line; by i.line; sum price")
        self.assert_left(SMALL, ITEMS + "rows", "o", "from items i; rows")

    def test_links_of_other_aliases_are_written_anew(self):
        self.assert_left(SMALL, "from items i; join orders o; join items j; link j.order = i.order; "
                                "link j.line = i.line; link i.order = i.order; rows", "o",
                         "from items i; join items j; link i.order = j.order; link i.line = j.line; "
                         "rows")

    def test_links_by_way_of_the_alias(self):
        self.assert_left(SMALL, "from items i; join orders o; join items j; link j.order = o.id; link i.order = o.id; "
                                "rows", "o", "from items i; join items j; link i.order = j.order; rows")
        self.assert_left(SMALL, "from items i; join orders o; join items j; join items k; link k.price = o.id; "
                                "link j.order = o.id; link i.order = o.id; link k.line = o.customer; rows", "o",
                         "from items i; join items j; join items k; link i.order = j.order; "
                         "link j.order = k.price; rows")

    def test_columns_in_the_order_of_aliases_and_tables(self):
        self.assert_left(SMALL, "from items i; join orders o; join items j; link j.price = j.line; link j.line = o.id; "
                                "link i.price = o.id; link i.order = j.line; rows", "o",
                         "from items i; join items j; link i.order = i.price; link i.price = j.line; "
                         "link j.line = j.price; rows")

    def test_classes_in_the_order_of_their_first_columns(self):
        self.assert_left(SMALL, "from items i; join orders o; join items j; link o.id = j.price; "
                                "link j.line = i.price; link i.line = o.customer; link o.customer = j.order; "
                                "link i.order = j.price; where j.line = 8; where i.order = 9; rows", "o",
                         "from items i; join items j; link i.order = j.price; link i.line = j.order; "
                         "link i.price = j.line; where i.order = 9; where i.price = 8; rows")

    def test_filters(self):
        self.assert_left(SMALL, ITEMS + "where o.id = 7; rows", "o", "from items i; where i.order = 7; rows")
        self.assert_left(SMALL, ITEMS + "where o.customer = 7; rows", "o", "from items i; rows")
        self.assert_left(SMALL, ITEMS + "where o.customer = 7; where i.line = 7; where i.order = 7; rows", "o",
                         "from items i; link i.order = i.line; where i.order = 7; rows")
        self.assert_left(SMALL, ITEMS + "where i.price = 3; where i.line = 0; where i.price = 3; rows", "o",
                         "from items i; where i.line = 0; where i.price = 3; rows")
        self.assert_left(SMALL, "from orders o; join items i; where i.price = 2; where i.line = 1; rows", "i",
                         "from orders o; rows")

    def test_several_values_in_ascending_order(self):
        self.assert_left(SMALL, ITEMS + "where o.id = 10; where i.order = 9; where o.id = 100; rows", "o",
                         "from items i; where i.order = 9; where i.order = 10; where i.order = 100; rows")
        self.assert_left(SMALL, ITEMS + "link i.line = o.id; where o.id = 10; where i.price = 9; where o.customer = 9; "
                                        "where i.line = 9; rows", "o",
                         "from items i; link i.order = i.line; link i.line = i.price; where i.order = 9; "
                         "where i.order = 10; rows")

    def test_columns_that_remain_alone(self):
        self.assert_left(SMALL, ITEMS + "link i.line = i.line; rows", "o", "from items i; rows")
        self.assert_left(SHOP, "from orders o; join orders p; link o.note = p.id; rows", "p",
                         "from orders o; link o.note = o.note; rows")
        self.assert_left(SHOP, "from orders o; join orders p; link o.note = o.note; rows", "p",
                         "from orders o; link o.note = o.note; rows")
        self.assert_left(SHOP, "from orders o; join orders p; link o.note = p.note; where p.note = 3; rows", "p",
                         "from orders o; where o.note = 3; rows")
        self.assert_left(SHOP, "from orders o; join orders p; link o.note = p.note; link o.id = p.id; rows", "p",
                         "from orders o; link o.note = o.note; rows")
        self.assert_left(SHOP, "from orders o; join orders p; link o.note = o.customer; rows", "p",
                         "from orders o; link o.customer = o.note; rows")
        self.assert_left(SHOP, "from orders o; join orders p; link p.note = p.note; rows", "p", "from orders o; rows")

    def test_columns_of_one_row(self):
        rows = "from orders o; join orders p; join orders q; link o.id = p.id; {}; rows"
        self.assert_left(SHOP, rows.format("link p.note = p.note"), "p",
                         "from orders o; join orders q; link o.note = o.note; rows")
        self.assert_left(SHOP, rows.format("link p.note = p.note"), "q",
                         "from orders o; join orders p; link o.id = p.id; link o.note = p.note; rows")
        self.assert_left(SHOP, rows.format("link q.id = p.id"), "p",
                         "from orders o; join orders q; link o.id = q.id; rows")
        self.assert_left(SHOP, rows.format("link q.note = p.note; where p.customer = 3"), "p",
                         "from orders o; join orders q; link o.note = q.note; where o.customer = 3; rows")

    def test_steps_by_way_of_the_alias(self):
        schema = "table t\n  column k\n  column l\n  column v\n  key k\n  key l\nend"
        rows = "from t a; join t b; join t c; link a.k = c.k; link c.l = b.l; {}rows"
        self.assert_left(schema, rows.format("where c.v = 3; "), "c",
                         "from t a; join t b; link a.k = b.k; link a.l = b.l; link a.v = b.v; where a.v = 3; rows")
        self.assert_left(schema, rows.format(""), "c",
                         "from t a; join t b; link a.k = b.k; link a.l = b.l; rows")

    def test_most_links(self):
        links = "; ".join(f"link {a}.{c} = {b}.{c}" for a, b in ("ij", "jk", "kl") for c in "xyz")
        self.assert_left(TREE, f"from a i; join a j; join a k; join a l; {links}; link i.x = i.y; link i.y = i.z; rows",
                         "j", "from a i; join a k; join a l; link i.x = i.y; link i.y = i.z; link i.z = k.x; "
                              "link k.x = k.y; link k.y = k.z; link k.z = l.x; link l.x = l.y; link l.y = l.z; rows")

    def test_contradictory_filters(self):
        self.assert_left(SMALL, ITEMS + "where o.customer = 2; where o.customer = 1; rows", "o", "from items i; rows")
        self.assert_left(SMALL, ITEMS + "where i.line = 2; where i.line = 1; where i.line = 3; rows", "o",
                         "from items i; where i.line = 1; where i.line = 2; where i.line = 3; rows")

    def test_errors(self):
        report = report_of(SHOP, "from items i; join orders o; join clients c; by o.customer; by i.line; rows")
        text = str(report)
        for call in (without, can_drop, lambda report, alias: is_drop_answer(report, alias, None)):
            for alias in ("x", "", "items", "orders", "I", "i.order", "id", " i", "o\n"):
                with self.assertRaises(UnknownAlias) as context:
                    call(report, alias)
                self.assertEqual(context.exception.name, alias)
            for alias in ("i", "o"):
                with self.assertRaises(NeededAlias) as context:
                    call(report, alias)
                self.assertEqual(context.exception.name, alias)
            call(report, "c")
        self.assertEqual(str(report), text)

    def test_errors_whatever_the_value_is(self):
        report = report_of(SMALL, ITEMS + "by o.id; rows")
        for value in [*ANY_VALUES, ("yes", None), ("yes", {"i": ("i", ()), "o": ("i", (0,))})]:
            for alias, error in (("x", UnknownAlias), ("i", NeededAlias), ("o", NeededAlias)):
                with self.assertRaises(error):
                    is_drop_answer(report, alias, value)

    def test_measured_alias_without_groups(self):
        with self.assertRaises(NeededAlias):
            without(report_of(SMALL, "from items i; rows"), "i")


class CanDropTest(DroppingCase):
    def test_required_reference(self):
        self.assertEqual(self.assert_drop(SMALL, ITEMS + "sum price", "o", "yes"),
                         ("yes", {"i": ("i", ()), "o": ("i", (0,))}))
        self.assert_drop(SMALL, ITEMS + "where o.id = 5; rows", "o", "yes")
        self.assert_drop(SMALL, ITEMS + "where o.customer = 5; rows", "o", "no")
        self.assert_drop(SMALL, "from orders o; join items i; link i.order = o.id; rows", "i", "no")

    def test_optional_reference(self):
        self.assert_drop(SHOP, "from orders o; join orders p; link o.note = p.id; rows", "p", "yes")
        self.assert_drop(SHOP, "from orders o; join orders p; link o.note = p.id; where p.note = 1; rows", "p", "no")
        self.assert_drop(SHOP, "from orders o; join orders p; link p.note = o.id; rows", "p", "no")
        self.assert_drop(SHOP, "from orders o; join orders p; link o.note = p.id; link p.note = p.note; rows",
                         "p", "no")

    def test_paths_of_several_references(self):
        rows = "from items i; join orders o; join clients c; link i.order = o.id; link c.id = o.customer; {}rows"
        self.assert_drop(SHOP, rows.format(""), "c", "yes")
        # Without o, any client is a row of c; the evidence takes the one of the item's order.
        self.assertEqual(self.assert_drop(SHOP, rows.format(""), "o", "yes"),
                         ("yes", {"i": ("i", ()), "o": ("i", (0,)), "c": ("i", (0, 0))}))
        self.assert_drop(SHOP, "from items i; join clients c; join orders o; link i.order = o.id; "
                               "link c.id = o.customer; by c.id; rows", "o", "no")
        self.assert_drop(SHOP, rows.format("link c.name = o.customer; "), "c", "no")
        answer = self.assert_drop(WIDE, "from c i; join b j; join a k; link i.b = j.k; rows", "k", "yes")
        self.assertIn(answer[1]["k"], [("j", (0,)), ("i", (1, 0))])

    def test_row_of_another_alias(self):
        self.assert_drop(SMALL, "from items i; join items j; rows", "j", "yes")
        self.assert_drop(SMALL, "from items i; join items j; link i.order = j.order; rows", "j", "yes")
        self.assert_drop(SMALL, "from items i; join items j; link i.order = j.order; where j.line = 1; rows", "j", "no")
        self.assert_drop(SMALL, "from items i; join items j; link i.order = j.line; rows", "j", "no")
        self.assert_drop(SMALL, "from items i; join items j; link i.order = j.order; where j.line = 1; "
                                "where i.line = 1; rows", "j", "yes")
        self.assert_drop(SMALL, "from items i; join items j; join items k; link i.order = k.order; "
                                "link k.line = j.price; link j.line = j.line; rows", "j", "no")

    def test_unlinked_alias(self):
        self.assert_drop(SMALL, "from orders o; join items i; rows", "i", "no")
        self.assert_drop(SMALL, "from items i; join orders o; rows", "o", "yes")
        self.assert_drop(SMALL, "from items i; join orders o; where o.customer = 1; rows", "o", "no")

    def test_other_aliases_have_other_rows_in_the_evidence(self):
        # With j linked to i, and k without a link, k can be what j was; the same the other way about.
        rows = "from items i; join items j; join items k; link j.order = i.order; by i.price; rows"
        self.assert_drop(SMALL, rows, "j", "yes")
        self.assert_drop(SMALL, rows, "k", "yes")

    def test_groups_stay(self):
        rows = "from orders o; join items i; join items j; link i.order = o.id; link j.order = o.id; {}by i.price; rows"
        self.assert_drop(SMALL, rows.format(""), "j", "yes")
        self.assert_drop(SMALL, rows.format("link j.price = i.price; "), "j", "yes")
        self.assert_drop(SMALL, rows.format("link j.price = i.line; "), "j", "no")
        self.assert_drop(SMALL, rows.format("where j.line = 4; "), "j", "no")

    def test_empty_reports(self):
        answer = self.assert_drop(SMALL, ITEMS + "where i.line = 1; where i.line = 2; rows", "o", "yes")
        self.assertEqual(answer, ("yes", None))
        self.assert_drop(SMALL, ITEMS + "where o.customer = 1; where o.customer = 2; rows", "o", "no")
        self.assertEqual(self.assert_drop(SMALL, ITEMS + "where o.id = 1; where o.id = 2; rows", "o", "yes"),
                         ("yes", None))
        self.assert_drop(SMALL, "from orders o; join orders p; link o.id = p.id; where o.customer = 1; "
                                "where p.customer = 2; rows", "p", "yes")

    def test_new_values_are_in_no_filter_of_the_report(self):
        for value in range(12):
            self.assert_drop(SMALL, ITEMS + f"where o.customer = {value}; rows", "o", "no")
            self.assert_drop(SMALL, f"from items i; join items j; where j.price = {value}; rows", "j", "no")

    def test_new_answers_each_time(self):
        for rows in (ITEMS + "rows", ITEMS + "where o.customer = 1; rows"):
            report = report_of(SMALL, rows)
            first = can_drop(report, "o")
            copied = copy.deepcopy(first)
            for part in first[1:]:
                if type(part) is dict:
                    part.clear()
            self.assertEqual(can_drop(report, "o"), copied)


class DropAnswerTest(DroppingCase):
    def test_leads(self):
        report = report_of(SHOP, "from items i; join orders o; join clients c; link i.order = o.id; "
                                 "link o.customer = c.id; by o.customer; rows")
        right = {"i": ("i", ()), "o": ("o", ()), "c": ("o", (0,))}
        self.assert_judged(report, "c", ("yes", right), True)
        self.assert_judged(report, "c", ("yes", {**right, "c": ("i", (0, 0)), "o": ("i", (0,))}), True)
        for alias, lead in (("c", ("c", ())), ("c", ("o", ())), ("c", ("o", (1,))), ("c", ("i", (0,))),
                            ("c", ("i", (0, 1))), ("c", ("o", (0, 0))), ("c", ("i", (0, 0, 0))), ("c", ["o", (0,)]),
                            ("c", ("o", [0])),
                            ("c", ("o", (False,))), ("c", ("o", (-2,))), ("c", ("o", (2,))), ("c", ("x", (0,))),
                            ("c", ("orders", (0,))), ("c", (["o"], (0,))), ("c", (0,)), ("c", ("o", (0,), None)),
                            ("c", ("o", (10**5000,))), ("c", ("o", 0)), ("c", "o"), ("i", ("o", ())),
                            ("i", ("i", (0,))), *[("c", value) for value in ANY_VALUES],
                            *[("c", ("o", value)) for value in ANY_VALUES],
                            *[("c", (value, (0,))) for value in ANY_VALUES]):
            self.assert_judged(report, "c", ("yes", {**right, alias: lead}), False)
        self.assert_judged(report, "c", ("yes", {"i": ("i", ()), "o": ("o", ())}), False)
        self.assert_judged(report, "c", ("yes", {**right, "more": ("i", ())}), False)
        for value in (("yes", right, None), ["yes", right], ("no", right), ("yes", None), ("yes", list(right.items())),
                      ("yes", []), right, ("yes",)):
            self.assert_judged(report, "c", value, False)

    def test_optional_references(self):
        report = report_of(SHOP, "from orders o; join orders p; link o.note = p.id; rows")
        self.assert_judged(report, "p", ("yes", {"o": ("o", ()), "p": ("o", (1,))}), True)
        self.assert_judged(report, "p", ("yes", {"o": ("o", ()), "p": ("o", (1, 1))}), False)
        report = report_of(SHOP, "from orders o; join clients c; rows")
        self.assert_judged(report, "c", ("yes", {"o": ("o", ()), "c": ("o", (0,))}), True)
        self.assert_judged(report, "c", ("yes", {"o": ("o", ()), "c": ("o", (1, 0))}), False)

    def test_only_the_first_reference_may_be_optional(self):
        # The row of p is that of o's note, and p has a note in each match; still a path from o may not go on there.
        report = report_of(SHOP, "from orders o; join orders p; join orders q; link o.note = p.id; "
                                 "link p.note = q.id; rows")
        right = {"o": ("o", ()), "p": ("p", ())}
        self.assert_judged(report, "q", ("yes", {**right, "q": ("p", (1,))}), True)
        self.assert_judged(report, "q", ("yes", {**right, "q": ("o", (1, 1))}), False)
        self.assert_judged(report, "q", ("yes", {"o": ("o", ()), "p": ("o", (1,)), "q": ("p", (1,))}), True)

    def test_an_optional_reference_is_open_for_each_alias_of_its_row(self):
        report = report_of(SHOP, "from orders o; join orders p; join clients c; link o.id = p.id; "
                                 "link p.note = p.note; rows")
        right = {"o": ("p", ()), "p": ("o", ())}
        for start in ("o", "p"):
            self.assert_judged(report, "c", ("yes", {**right, "c": (start, (0,))}), True)
            self.assert_judged(report, "c", ("yes", {**right, "c": (start, (1, 0))}), True)

    def test_the_same_group(self):
        report = report_of(SMALL, "from orders o; join items i; join items j; link i.order = o.id; "
                                  "link j.order = o.id; by i.price; rows")
        self.assert_judged(report, "j", ("yes", {"o": ("o", ()), "i": ("i", ()), "j": ("i", ())}), True)
        report = report_of(SMALL, "from items m; join items i; join items j; by i.price; rows")
        for lead, expected in ((("i", ()), True), (("m", ()), False)):
            self.assert_judged(report, "j", ("yes", {"m": ("m", ()), "i": lead, "j": ("m", ())}), expected)
            self.assert_judged(report, "j", ("yes", {"m": lead, "i": ("i", ()), "j": ("m", ())}), not expected)

    def test_rows_of_another_table(self):
        schema = "table a\n  column k\n  key k\nend\ntable b\n  column k\n  key k\n  ref k -> a\nend"
        report = report_of(schema, "from b i; join b j; join a k; rows")
        self.assert_judged(report, "j", ("yes", {"i": ("i", ()), "j": ("i", ()), "k": ("i", (0,))}), True)
        self.assert_judged(report, "j", ("yes", {"i": ("i", ()), "j": ("i", (0,)), "k": ("i", (0,))}), False)
        self.assert_judged(report, "j", ("yes", {"i": ("i", ()), "j": ("k", ()), "k": ("k", ())}), False)

    def test_empty_reports(self):
        report = report_of(SMALL, ITEMS + "where i.line = 1; where i.line = 2; rows")
        self.assert_judged(report, "o", ("yes", None), True)
        for value in ({"i": ("i", ()), "o": ("i", (0,))}, {}, [], False, ()):
            self.assert_judged(report, "o", ("yes", value), False)
        report = report_of(SMALL, ITEMS + "where o.customer = 1; where o.customer = 2; rows")
        self.assert_judged(report, "o", ("yes", None), False)
        database = {"orders": [(1, 1)], "items": [(1, 1, 1)]}
        self.assert_judged(report, "o", ("no", database, {"i": (1, 1, 1)}, ("o", [("filter", 1)])), True)

    def test_trees(self):
        report = report_of(SMALL, "from orders o; join items i; join items j; link i.order = o.id; "
                                  "link j.order = o.id; where j.line = 2; by i.price; rows")
        database = {"orders": [(1, 5)], "items": [(1, 1, 20), (1, 3, 30)]}
        match = {"o": (1, 5), "i": (1, 3, 30)}
        self.assert_judged(report, "j", ("no", database, match, ("j", [("filter", 0), ("filter", 0)])), True)
        inner = ("j", [("filter", 0), ("filter", 0)])
        self.assert_judged(report, "j", ("no", database, match, ("i", [("group", 0), inner])), True)
        self.assert_judged(report, "j", ("no", database, match, ("i", [inner, inner])), True)
        other = {"o": (1, 5), "i": (1, 1, 20)}
        self.assert_judged(report, "j", ("no", database, other, ("i", [("group", 0), inner])), False)
        self.assert_judged(report, "j", ("no", database, other, ("i", [inner, ("group", 0)])), True)
        for tree in (("i", [inner, ("group", 0)]), ("i", [("group", 1), inner]), ("i", [("group", False), inner]),
                     ("i", [("group", -1), inner]), ("group", 0), ("j", [("filter", 0)]),
                     ("j", [("link", 1), ("filter", 0)]), ("o", [inner]), inner[1], *ANY_VALUES):
            self.assert_judged(report, "j", ("no", database, match, tree), False)
        self.assert_judged(report, "j", ("no", database, match, ("i", [("group", 0), ("group", 0)])), False)

    def test_matches_and_databases(self):
        report = report_of(SMALL, ITEMS + "where o.customer = 5; by i.order; rows")
        database = {"orders": [(1, 6), (2, 5)], "items": [(1, 1, 20), (2, 1, 20)]}
        tree = ("o", [("filter", 0), ("link", 0)])
        self.assert_judged(report, "o", ("no", database, {"i": (1, 1, 20)}, tree), True)
        for match in ({"i": (2, 1, 20)}, {"i": (1, 1, 21)}, {"i": (1, 1, 20), "o": (1, 6)}, {}, {"o": (1, 6)},
                      {"i": (True, 1, 20)}, {"i": [1, 1, 20]}, (1, 1, 20), [("i", (1, 1, 20))], *ANY_VALUES):
            self.assert_judged(report, "o", ("no", database, match, tree), False)
        for other in ({"orders": [(1, 6), (1, 5)], "items": [(1, 1, 20)]}, {"orders": [(1, 6), (2, 5)], "items": []},
                      {"orders": [(2, 5), (1, 6)], "items": [(1, 1, 20)]}, {"orders": [(2, 5)], "items": [(1, 1, 20)]},
                      {**database, "more": []}, *ANY_VALUES):
            self.assert_judged(report, "o", ("no", other, {"i": (1, 1, 20)}, tree), False)
        for value in (["no", database, {"i": (1, 1, 20)}, tree], ("no", database, {"i": (1, 1, 20)}, tree, None),
                      ("yes", database, {"i": (1, 1, 20)}, tree), ("no", database, {"i": (1, 1, 20)})):
            self.assert_judged(report, "o", value, False)

    def test_other_kinds(self):
        report = report_of(SMALL, ITEMS + "rows")
        for value in ANY_VALUES:
            self.assert_judged(report, "o", value, False)
            for word in ("yes", "no"):
                self.assert_judged(report, "o", (word, value), False)
                self.assert_judged(report, "o", (word, value, value, value), False)


class SmallerTest(DroppingCase):
    def assert_smaller(self, schema, rows, expected):
        report = report_of(schema, rows)
        text = str(report)
        self.assertEqual(str(smaller(report)), str(report_of(schema, expected)))
        self.assertTrue(smaller(report=report) == report_of(schema, expected))
        self.assertIs(type(smaller(report)), Report)
        self.assertEqual(str(report), text)

    def test_reports(self):
        self.assert_smaller(SMALL, ITEMS + "sum price", "from items i; sum price")
        self.assert_smaller(SMALL, "from items i; sum price", "from items i; sum price")
        self.assert_smaller(SMALL, ITEMS + "by o.id; sum price", ITEMS + "by o.id; sum price")
        self.assert_smaller(SMALL, "from orders o; join items i; link i.order = o.id; rows",
                            "from orders o; join items i; link i.order = o.id; rows")

    def test_several_aliases_one_after_the_other(self):
        rows = "from items i; join orders o; join clients c; link i.order = o.id; link c.id = o.customer; rows"
        self.assert_smaller(SHOP, rows, "from items i; rows")
        self.assert_smaller(SHOP, "from items i; join clients c; join orders o; link i.order = o.id; "
                                  "link c.id = o.customer; rows", "from items i; rows")
        self.assert_smaller(SHOP, "from items i; join orders o; join orders p; join items j; link i.order = o.id; "
                                  "link p.id = j.order; link j.order = i.order; by i.line; sum price",
                            "from items i; by i.line; sum price")

    def test_the_first_one_goes_first(self):
        rows = "from orders o; join items i; join items j; link i.order = o.id; link j.order = o.id; rows"
        self.assert_smaller(SMALL, rows, "from orders o; join items j; link o.id = j.order; rows")
        rows = "from orders o; join items j; join items i; link i.order = o.id; link j.order = o.id; rows"
        self.assert_smaller(SMALL, rows, "from orders o; join items i; link o.id = i.order; rows")

    def test_what_stays_is_written_as_it_was_if_nothing_goes(self):
        rows = ("from orders o; join items i; link i.order = o.id; link o.id = i.order; where i.line = 2; "
                "where i.line = 2; rows")
        self.assert_smaller(SMALL, rows, rows)

    def test_optional_reference(self):
        self.assert_smaller(SHOP, "from orders o; join orders p; join clients c; link p.id = o.note; "
                                  "link c.id = p.customer; rows", "from orders o; link o.note = o.note; rows")

    def test_empty_report(self):
        self.assert_smaller(SMALL, ITEMS + "where i.line = 2; where i.line = 1; rows",
                            "from items i; where i.line = 1; where i.line = 2; rows")


if __name__ == "__main__":
    unittest.main()
