import copy
import unittest

from countonce.errors import OtherReports
from countonce.often import equally_often, is_often_answer
from countonce.reports import Report
from countonce.results import pairs
from countonce.schemas import Schema
from countonce.within import is_within_answer, same_pairs, within
from tests.many import changed, some_database
from tests.plain import is_plain_empty
from tests.plain_pairs import can_be_compared, is_plain_often_answer, is_plain_within_answer
from tests.samples import ANY_VALUES, SALES, SHOP, SMALL, TREE, WIDE, exact, report_of
from tests.twists import some_pairs

ITEMS = "from items i; join orders o; link i.order = o.id; "

# Main keys whose columns stand last, and references in a row.
LONG = """table a
  column v
  column y
  column x
  key y x
end
table b
  column v
  column k
  column p
  column q
  key k
  ref q p -> a
end
table c
  column v
  column b
  column k
  key k
  ref b -> b
end
table d
  column k
  column one
  column two
  column c
  key k
  ref c -> c
  optional two one -> a
end"""

# Two optional references to one table.
TWICE = """table a
  column k
  column v
  key k
end
table b
  column k
  column one
  column two
  key k
  optional one -> a
  optional two -> a
end"""


class PairsCase(unittest.TestCase):
    def assert_words(self, report, other, words):
        """Check whether a report is within another one, this one within it, and whether they are equally frequent."""
        texts = [str(report), str(other)]
        forth, back, often = within(report, other), within(other, report), equally_often(report, other)
        again = equally_often(other, report)
        self.assertEqual(" ".join([forth[0], back[0], often[0]]), words, texts)
        self.assertEqual([again[0], within(report=report, other=other)[0], within(other=report, report=other)[0]],
                         [often[0], forth[0], back[0]])
        self.assertTrue(is_plain_within_answer(report, other, forth), forth)
        self.assertTrue(is_plain_within_answer(other, report, back), back)
        self.assertTrue(is_plain_often_answer(report, other, often), often)
        self.assertTrue(is_plain_often_answer(other, report, again), again)
        self.assertIs(is_within_answer(report, other, forth), True)
        self.assertIs(is_within_answer(other, report, back), True)
        self.assertIs(is_often_answer(report, other, often), True)
        self.assertIs(is_often_answer(other, report, again), True)
        self.assertIs(same_pairs(report, other), words.startswith("yes yes"))
        self.assertIs(same_pairs(other=other, report=report), words.startswith("yes yes"))
        self.assertEqual([str(report), str(other)], texts)
        return forth, back, often

    def assert_rows(self, schema, rows, others, words):
        """Check two reports that are given by their rows, also against themselves."""
        report, other = report_of(schema, rows), report_of(schema, others)
        self.assert_words(report, report, "yes yes yes")
        self.assert_words(other, other, "yes yes yes")
        return self.assert_words(report, other, words)


class ExamplesTest(PairsCase):
    def test_example(self):
        schema = Schema.parse(SMALL)
        plain = Report.parse(schema, "report plain\n  from items i\n  by i.order\n  rows\nend")
        other = Report.parse(schema, "report other\n  from items j\n  join orders o\n  link j.order = o.id\n"
                                     "  by o.id\n  rows\nend")
        self.assertEqual([within(plain, other)[1]["o"], within(other, plain), same_pairs(plain, other)],
                         [('i', (0,)), ('yes', {'i': ('j', ())}), True])
        self.assert_words(plain, other, "yes yes yes")

    def test_report_of_the_document(self):
        for text in (SMALL, SHOP):
            schema = Schema.parse(text)
            sales = Report.parse(schema, SALES)
            self.assert_words(sales, sales, "yes yes yes")
            self.assert_words(sales, report_of(text, ITEMS + "by o.customer; rows"), "yes no no")
            self.assert_words(sales, report_of(text, ITEMS + "where o.customer = 8; by o.customer; rows"), "no no no")


class ComparedTest(PairsCase):
    def assert_other(self, report, other):
        self.assertFalse(can_be_compared(report, other))
        for one, two in ((report, other), (other, report)):
            for call in (within, same_pairs, equally_often):
                with self.assertRaises(OtherReports):
                    call(one, two)
            for judge in (is_within_answer, is_often_answer):
                for value in [("yes", None), within(one, one), equally_often(two, two), *ANY_VALUES]:
                    with self.assertRaises(OtherReports):
                        judge(one, two, value)

    def test_other_measured_tables(self):
        self.assert_other(report_of(SMALL, "from orders o; rows"), report_of(SMALL, "from items o; rows"))
        self.assert_other(report_of(SMALL, "from orders o; join items i; rows"),
                          report_of(SMALL, "from items i; join orders o; rows"))

    def test_numbers_of_group_columns(self):
        one, two = report_of(SMALL, "from orders o; rows"), report_of(SMALL, "from orders o; by o.id; rows")
        self.assert_other(one, two)
        self.assert_other(two, report_of(SMALL, "from orders o; by o.id; by o.customer; rows"))

    def test_other_schemas(self):
        one = report_of(SMALL, "from orders o; rows")
        tables = SMALL.split("table ")
        for text in (SMALL.replace("price", "cost"), SMALL.replace("line", "row"), SMALL + "\ntable x\n  column x\n"
                     "  key x\nend", SMALL.replace("ref", "optional").replace("key order line", "key line"),
                     SMALL.replace("key order line", "key line order"), tables[0] + "table " + tables[1].strip()):
            self.assert_other(one, report_of(text, "from orders o; rows"))

    def test_the_same_tables_in_another_order(self):
        one = "table a\n  column x\n  key x\nend"
        two = "table b\n  column x\n  key x\nend"
        self.assert_other(report_of(f"{one}\n{two}", "from a m; rows"), report_of(f"{two}\n{one}", "from a m; rows"))

    def test_empty_reports_are_no_exception(self):
        empty = "where o.id = 1; where o.id = 2; "
        self.assert_other(report_of(SMALL, f"from orders o; {empty}rows"),
                          report_of(SMALL, f"from orders o; {empty}by o.id; rows"))

    def test_an_equal_schema(self):
        one, two = report_of(SMALL, ITEMS + "rows"), report_of(SMALL, ITEMS + "rows")
        self.assertIsNot(one.schema, two.schema)
        self.assert_words(one, two, "yes yes yes")

    def test_names_and_measures_have_no_part(self):
        schema = Schema.parse(SMALL)
        one = Report.parse(schema, "report one\n  from items i\n  by i.order\n  sum price\nend")
        for text in ("report two\n  from items i\n  by i.order\n  sum line\nend",
                     "report one\n  from items order\n  by order.order\n  rows\nend",
                     "report x\n  from items i\n  by i.order\n  rows\nend"):
            self.assert_words(one, Report.parse(schema, text), "yes yes yes")


class WordsTest(PairsCase):
    def test_aliases_renamed_and_links_turned(self):
        rows = "from items i; join orders o; link i.order = o.id; where o.customer = 3; by o.id; rows"
        self.assert_rows(SMALL, rows, "from items o; join orders i; link i.id = o.order; where i.customer = 3; "
                                      "by i.id; rows", "yes yes yes")
        self.assert_rows(SMALL, rows, "from items i; join orders o; link o.id = i.order; where o.customer = 3; "
                                      "by i.order; rows", "yes yes yes")
        self.assert_rows(SMALL, "from orders o; join items i; join items j; link i.order = o.id; link j.line = i.line; "
                                "rows", "from orders o; join items i; join items j; link j.order = o.id; "
                                "link i.line = j.line; rows", "yes yes yes")

    def test_an_alias_more_that_changes_nothing(self):
        self.assert_rows(SMALL, "from items i; by i.order; rows", ITEMS + "by o.id; rows", "yes yes yes")
        self.assert_rows(SMALL, "from items i; rows", "from items i; join items j; link i.order = j.order; "
                                "link i.line = j.line; rows", "yes yes yes")
        self.assert_rows(SHOP, "from items i; rows", "from items i; join orders o; join clients c; "
                               "link i.order = o.id; link o.customer = c.id; rows", "yes yes yes")

    def test_an_alias_more_that_changes_numbers(self):
        self.assert_rows(SMALL, "from orders o; join items i; link i.order = o.id; rows",
                         "from orders o; join items i; join items j; link i.order = o.id; link j.order = o.id; rows",
                         "yes yes no")
        self.assert_rows(SMALL, "from items i; rows", "from items i; join items j; rows", "yes yes no")
        self.assert_rows(SMALL, "from items i; rows", "from items i; join items j; link i.line = j.line; rows",
                         "yes yes no")
        self.assert_rows(SMALL, "from items i; rows", "from items i; join orders o; rows", "yes yes no")

    def test_an_alias_more_that_loses_pairs(self):
        self.assert_rows(SMALL, "from orders o; rows", "from orders o; join items i; link i.order = o.id; rows",
                         "no yes no")
        self.assert_rows(SHOP, "from orders o; rows", "from orders o; join orders p; link o.note = p.id; rows",
                         "no yes no")

    def test_links_less_or_more(self):
        self.assert_rows(SMALL, ITEMS + "rows", "from items i; join orders o; rows", "yes yes no")
        self.assert_rows(SMALL, ITEMS + "by o.customer; rows", "from items i; join orders o; by o.customer; rows",
                         "yes no no")
        self.assert_rows(SMALL, ITEMS + "rows", ITEMS + "link i.line = o.customer; rows", "no yes no")
        self.assert_rows(SMALL, ITEMS + "rows", "from items i; join orders o; link i.order = o.id; link o.id = o.id; "
                                                "link o.id = i.order; link i.line = i.line; rows", "yes yes yes")

    def test_filters_less_or_more(self):
        self.assert_rows(SMALL, "from orders o; rows", "from orders o; where o.id = 5; rows", "no yes no")
        self.assert_rows(SMALL, "from orders o; where o.id = 6; rows", "from orders o; where o.id = 5; rows", "no no no")
        self.assert_rows(SMALL, "from orders o; where o.id = 5; where o.customer = 6; rows",
                         "from orders o; where o.customer = 6; rows", "yes no no")
        self.assert_rows(SMALL, ITEMS + "where o.id = 5; rows", "from items i; where i.order = 5; rows", "yes yes yes")
        self.assert_rows(SMALL, ITEMS + "where o.id = 0; where o.customer = 1; rows",
                         ITEMS + "where i.order = 0; where o.customer = 1; where o.customer = 1; rows", "yes yes yes")
        self.assert_rows(SMALL, "from orders o; where o.id = 1; where o.customer = 1; rows",
                         "from orders o; link o.id = o.customer; where o.id = 1; rows", "yes yes yes")

    def test_other_group_columns(self):
        self.assert_rows(SMALL, "from items i; by i.order; rows", "from items i; by i.line; rows", "no no no")
        self.assert_rows(SMALL, "from items i; by i.order; by i.line; rows", "from items i; by i.line; by i.order; rows",
                         "no no no")
        self.assert_rows(SMALL, "from items i; link i.order = i.line; by i.order; by i.line; rows",
                         "from items i; link i.order = i.line; by i.line; by i.order; rows", "yes yes yes")
        self.assert_rows(SMALL, "from items i; link i.order = i.line; by i.order; rows",
                         "from items i; by i.line; rows", "yes no no")

    def test_empty_reports(self):
        empty = "from orders o; where o.id = 1; where o.id = 2; rows"
        forth, back, often = self.assert_rows(SMALL, empty, "from orders o; rows", "yes no no")
        self.assertEqual(forth, ("yes", None))
        forth, back, often = self.assert_rows(SMALL, "from orders o; rows", empty, "no yes no")
        self.assertEqual(back, ("yes", None))
        other = "from orders p; join items i; join items j; link i.order = j.order; link i.line = j.line; " \
                "where i.price = 3; where j.price = 4; rows"
        found = self.assert_rows(SMALL, empty, other, "yes yes yes")
        self.assertEqual(found, (("yes", None),) * 3)

    def test_references_to_the_own_table(self):
        self.assert_rows(TREE, "from a m; join a n; link m.y = n.x; rows", "from a m; link m.y = m.y; rows",
                         "yes yes yes")
        self.assert_rows(TREE, "from a m; join a n; link m.y = n.x; rows", "from a m; rows", "yes no no")
        self.assert_rows(TREE, "from a m; join a n; link m.y = n.x; rows", "from a m; join a n; link m.z = n.x; rows",
                         "no no no")
        self.assert_rows(TREE, "from a m; join a n; link m.y = n.x; link n.y = m.x; rows",
                         "from a m; join a n; link n.y = m.x; link n.x = m.y; rows", "yes yes yes")
        self.assert_rows(TREE, "from a m; join a n; link m.y = n.x; link n.y = m.x; rows",
                         "from a m; join a n; join a o; link m.y = n.x; link n.y = o.x; rows", "yes no no")
        self.assert_rows(TREE, "from a m; join a n; join a o; link m.y = n.x; link n.y = o.x; rows",
                         "from a m; join a n; link m.y = n.x; link n.y = n.y; rows", "yes yes yes")
        self.assert_rows(TREE, "from a m; link m.y = m.x; rows",
                         "from a m; join a n; link m.y = n.x; link n.x = m.x; rows", "yes yes yes")

    def test_two_optional_references_to_one_table(self):
        one, two = "link m.one = n.k; ", "link m.two = n.k; "
        start = "from b m; join a n; "
        self.assert_rows(TWICE, start + one + "rows", start + two + "rows", "no no no")
        self.assert_rows(TWICE, start + one + two + "rows", "from b m; link m.one = m.two; rows", "yes yes yes")
        self.assert_rows(TWICE, start + one + two + "rows", start + one + "rows", "yes no no")
        self.assert_rows(TWICE, start + one + "link m.two = m.two; by n.v; rows", start + one + "by n.v; rows",
                         "yes no no")
        self.assert_rows(TWICE, start + one + "link m.two = m.two; rows", start + two + "link m.one = m.one; rows",
                         "yes yes yes")
        self.assert_rows(TWICE, start + one + "link m.two = m.two; by n.v; rows",
                         start + two + "link m.one = m.one; by n.v; rows", "no no no")

    def test_optional_references_of_several_columns(self):
        start = "from d m; join a n; "
        both = "link m.two = n.y; link m.one = n.x; "
        for one in ("link m.one = m.one; ", "link m.two = m.two; ", "link m.two = m.two; link m.one = m.one; "):
            self.assert_rows(LONG, start + both + "rows", f"from d m; {one}rows", "yes yes yes")
        self.assert_rows(LONG, start + both + "rows", "from d m; link m.one = m.two; rows", "no yes no")
        self.assert_rows(LONG, start + "link m.two = n.y; rows", start + both + "rows", "yes yes no")
        self.assert_rows(LONG, start + "link m.one = n.y; link m.two = n.x; rows", start + both + "rows", "yes no no")

    def test_a_path_of_three_references(self):
        long = ("from d m; join c n; join b o; join a p; link m.c = n.k; link n.b = o.k; link o.q = p.y; "
                "link o.p = p.x; {}rows")
        forth, back, often = self.assert_rows(LONG, "from d m; rows", long.format(""), "yes yes yes")
        self.assertEqual(forth[1]["p"], ("m", (0, 0, 0)))
        middle = "from d m; join b o; join a p; link o.q = p.y; link o.p = p.x; {}rows"
        forth, back, often = self.assert_rows(LONG, "from d m; join c n; link m.c = n.k; rows", middle.format(""),
                                              "yes yes no")
        self.assert_rows(LONG, middle.format("by p.v; "), long.format("by p.v; "), "no yes no")
        self.assert_rows(LONG, "from d m; join c n; join b o; link m.c = n.k; link n.b = o.k; by o.q; rows",
                         "from d m; join c n; join b o; link m.c = n.k; link n.b = o.k; by o.p; rows", "no no no")

    def test_a_path_over_different_references(self):
        schema = ("table a\n  column k\n  key k\nend\ntable b\n  column k\n  column one\n  column two\n  key k\n"
                  "  ref one -> a\n  ref two -> a\nend\ntable c\n  column k\n  column b\n  column x\n  key k\n"
                  "  optional x -> a\n  ref b -> b\nend")
        for number, name in enumerate(("one", "two")):
            forth = self.assert_rows(schema, "from c m; rows", f"from c m; join b n; join a o; link m.b = n.k; "
                                     f"link n.{name} = o.k; rows", "yes yes yes")[0]
            self.assertEqual(forth[1]["o"], ("m", (1, number)))

    def test_main_keys_whose_columns_stand_last(self):
        self.assert_rows(LONG, "from b m; by m.q; rows", "from b m; join a n; link m.q = n.y; link m.p = n.x; "
                                                         "by n.y; rows", "yes yes yes")
        self.assert_rows(LONG, "from b m; by m.q; rows", "from b m; join a n; link m.q = n.x; link m.p = n.y; "
                                                         "by n.x; rows", "no yes no")
        self.assert_rows(LONG, "from c m; by m.b; rows", "from c m; join b n; link m.b = n.k; by n.k; rows",
                         "yes yes yes")

    def test_several_keys(self):
        self.assert_rows(WIDE, "from a m; join a n; link m.r = n.r; rows", "from a m; rows", "yes yes yes")
        self.assert_rows(WIDE, "from a m; join a n; link m.p = n.p; rows", "from a m; rows", "yes yes no")
        self.assert_rows(WIDE, "from a m; join a n; link m.p = n.p; link m.q = n.q; by n.r; rows",
                         "from a m; by m.r; rows", "yes yes yes")

    def test_cycles_without_the_measured_alias(self):
        # Aliases that refer to one another, beside a measured alias that has nothing to do with them.
        one = "from a m; join a n; join a o; link n.y = o.x; link o.y = n.x; rows"
        self.assert_rows(TREE, one, "from a m; join a o; join a n; link o.y = n.x; link n.y = o.x; rows", "yes yes yes")
        self.assert_rows(TREE, one, "from a m; join a n; link n.y = n.x; rows", "no yes no")
        self.assert_rows(TREE, one, "from a m; join a n; join a o; join a p; link n.y = o.x; link o.y = n.x; "
                                    "link p.y = o.x; rows", "yes yes no")
        self.assert_rows(TREE, "from a m; join a n; join a o; link n.y = o.x; rows",
                         "from a m; join a n; link n.y = n.y; rows", "yes yes yes")
        self.assert_rows(TREE, "from a m; join a n; join a o; link o.y = o.y; rows",
                         "from a m; join a n; link n.y = n.y; rows", "yes yes no")


class JudgeTest(PairsCase):
    def judge(self, report, other, value, expected):
        before = exact(value)
        self.assertIs(is_within_answer(report, other, value), expected, value)
        self.assertIs(is_within_answer(value=value, other=other, report=report), expected)
        self.assertIs(is_plain_within_answer(report, other, value), expected, value)
        self.assertEqual(exact(value), before)

    def test_places(self):
        plain = report_of(SMALL, "from items i; by i.order; rows")
        other = report_of(SMALL, "from items j; join orders o; link j.order = o.id; by o.id; rows")
        self.judge(plain, other, ("yes", {"j": ("i", ()), "o": ("i", (0,))}), True)
        self.judge(plain, other, ("yes", {"o": ("i", (0,)), "j": ("i", ())}), True)
        self.judge(other, plain, ("yes", {"i": ("j", ())}), True)
        for places in ({"j": ("i", ())}, {"j": ("i", ()), "o": ("i", (0,)), "x": ("i", ())}, {"i": ("j", ())}, {},
                       {"j": ("i", ()), "o": ("i", ())}, {"j": ("i", ()), "o": ("i", (1,))}, None,
                       {"j": ("i", ()), "o": ("i", (0, 0))}, {"j": ("i", ()), "o": ("j", (0,))},
                       {"j": ("i", ()), "o": ("i", (False,))}, {"j": ("i", ()), "o": ("i", [0])},
                       {"j": ("i", ()), "o": ["i", (0,)]}, {"j": ("i", ()), "o": ("i", (-1,))},
                       {"j": ("i", ()), "o": ("i", (0,), 0)}, [("j", ("i", ())), ("o", ("i", (0,)))],
                       {"j": ("i", (0,)), "o": ("i", (0,))}, *ANY_VALUES):
            self.judge(plain, other, ("yes", places), False)

    def test_several_ways(self):
        report = report_of(SMALL, ITEMS + "rows")
        other = report_of(SMALL, "from items i; join orders o; rows")
        for lead in (("i", (0,)), ("o", ())):
            self.judge(report, other, ("yes", {"i": ("i", ()), "o": lead}), True)
            self.judge(report, report, ("yes", {"i": ("i", ()), "o": lead}), True)
        free = report_of(SMALL, "from items i; join orders o; rows")
        self.judge(free, report, ("yes", {"i": ("i", ()), "o": ("i", (0,))}), True)
        self.judge(free, report, ("yes", {"i": ("i", ()), "o": ("o", ())}), False)

    def test_first_reference_that_is_optional(self):
        leads = {"m": ("m", ()), "n": ("m", (0,))}
        other = report_of(TREE, "from a m; join a n; link m.y = n.x; rows")
        # With a link or a filter on a column of just this reference, the form is right.
        for rows in ("link m.y = m.y; ", "where m.y = 3; ", "link m.x = m.y; ", "link m.z = m.y; "):
            self.judge(report_of(TREE, f"from a m; {rows}rows"), other, ("yes", leads), True)
        for rows in ("", "link m.z = m.z; ", "where m.z = 3; ", "link m.x = m.x; "):
            self.judge(report_of(TREE, f"from a m; {rows}rows"), other, ("yes", leads), False)

    def test_first_reference_with_a_link_of_an_alias_that_has_the_same_row(self):
        # m.y is in a class with n.y, which is in a link, but only n.y is in a link itself: the form decides.
        other = report_of(TREE, "from a m; join a n; link m.y = n.x; rows")
        report = report_of(TREE, "from a m; join a n; link m.x = n.x; link n.y = n.y; rows")
        self.assert_words(report, other, "yes yes yes")
        self.judge(report, other, ("yes", {"m": ("m", ()), "n": ("n", (0,))}), True)
        self.judge(report, other, ("yes", {"m": ("n", ()), "n": ("n", (0,))}), True)
        self.judge(report, other, ("yes", {"m": ("m", ()), "n": ("m", (0,))}), False)

    def test_further_references_are_required(self):
        report = report_of(TREE, "from a m; join a n; link m.y = n.x; link n.z = n.z; rows")
        other = report_of(TREE, "from a m; join a n; join a o; link m.y = n.x; link n.z = o.x; rows")
        leads = {"m": ("m", ()), "n": ("m", (0,)), "o": ("n", (1,))}
        self.judge(report, other, ("yes", leads), True)
        self.judge(report, other, ("yes", {**leads, "o": ("m", (0, 1))}), False)
        self.judge(report, other, ("yes", {**leads, "n": ("n", ())}), True)

    def test_empty_reports(self):
        empty = report_of(SMALL, "from orders o; where o.id = 1; where o.id = 2; rows")
        report = report_of(SMALL, "from orders o; rows")
        self.judge(empty, report, ("yes", None), True)
        self.judge(empty, empty, ("yes", None), True)
        self.judge(report, empty, ("yes", None), False)
        self.judge(report, report, ("yes", None), False)
        for value in ({"o": ("o", ())}, {}, [], False, ()):
            self.judge(empty, report, ("yes", value), False)
            self.judge(empty, empty, ("yes", value), False)

    def test_trees(self):
        report = report_of(SMALL, "from orders o; join items i; link i.order = o.id; by i.line; rows")
        other = report_of(SMALL, "from orders p; join items j; link p.id = j.order; where j.line = 2; by j.line; rows")
        database = {"orders": [(1, 5)], "items": [(1, 1, 20), (1, 2, 30)]}
        match = {"o": (1, 5), "i": (1, 1, 20)}
        self.judge(report, other, ("no", database, match, ("j", [("filter", 0), ("group", 0)])), True)
        self.judge(report, other, ("no", database, {**match, "i": (1, 2, 30)}, ("j", [("filter", 0), ("group", 0)])),
                   False)
        for tree in (("j", [("group", 0), ("group", 0)]), ("j", [("filter", 0), ("filter", 0)]), ("j", [("filter", 0)]),
                     ("i", [("filter", 0), ("group", 0)]), ("j", [("filter", 0), ("group", 1)]), ("group", 0),
                     ("j", (("filter", 0), ("group", 0))), ["j", [("filter", 0), ("group", 0)]],
                     ("j", [("link", 0), ("group", 0)]), ("p", [("j", [])]), *ANY_VALUES):
            self.judge(report, other, ("no", database, match, tree), False)

    def test_matches_and_databases(self):
        report = report_of(SMALL, "from orders o; rows")
        other = report_of(SMALL, "from orders p; join items j; link p.id = j.order; rows")
        database = {"orders": [(1, 5), (2, 6)], "items": [(1, 1, 20)]}
        tree = ("j", [("link", 0)])
        self.judge(report, other, ("no", database, {"o": (2, 6)}, tree), True)
        self.judge(report, other, ("no", dict(reversed(database.items())), {"o": (2, 6)}, tree), True)
        for match in ({"o": (1, 5)}, {"p": (2, 6)}, {"o": (2, 5)}, {"o": [2, 6]}, {"o": (2, 6), "p": (2, 6)}, (2, 6),
                      *ANY_VALUES):
            self.judge(report, other, ("no", database, match, tree), False)
        for value in ({**database, "orders": [(2, 6)]}, {**database, "x": []}, {"orders": [(1, 5), (2, 6)]},
                      {**database, "orders": [(1, 5), (2, 6), (2, 7)]}, *ANY_VALUES):
            self.judge(report, other, ("no", value, {"o": (2, 6)}, tree), False)
        for value in (["no", database, {"o": (2, 6)}, tree], ("no", database, {"o": (2, 6)}), (), ("no",),
                      ("yes", database, {"o": (2, 6)}, tree), ("no", database, {"o": (2, 6)}, tree, None)):
            self.judge(report, other, value, False)
        database = {"orders": [(1, 0), (0, 1)], "items": []}
        self.judge(report, other, ("no", database, {"o": (1, 0)}, ("j", [])), True)
        self.judge(report, other, ("no", database, {"o": (True, 0)}, ("j", [])), False)
        self.judge(report, other, ("no", database, {"o": (1, False)}, ("j", [])), False)

    def test_other_kinds(self):
        report = report_of(SMALL, ITEMS + "rows")
        other = report_of(SMALL, "from items i; join orders o; where o.id = 1; rows")
        for value in ANY_VALUES:
            for words in (value, ("yes", value), ("no", value), ("no", value, value, value)):
                self.judge(report, other, words, False)


class ManyTest(PairsCase):
    def test_many(self):
        seen = {}
        for number, (_, report, other) in enumerate(some_pairs("within", 700, 5, 4)):
            forth, back = within(report, other), within(other, report)
            often = equally_often(report, other)
            words = " ".join([forth[0], back[0], often[0]])
            self.assert_words(report, other, words)
            kind = words + (" empty" if is_plain_empty(report) or is_plain_empty(other) else "")
            seen[kind] = seen.get(kind, 0) + 1
        self.assertTrue(len(seen) == 8 and min(seen.values()) > 3, seen)

    def test_pairs_in_databases(self):
        seen = {}
        for rng, report, other in some_pairs("pairs", 500):
            word = within(report, other)[0]
            for _ in range(3):
                database = some_database(rng, report.schema)
                own, found = set(pairs(report, database)), set(pairs(other, database))
                self.assertTrue(own <= found or word == "no")
                seen[word, len(own) > 0] = seen.get((word, len(own) > 0), 0) + 1
        self.assertTrue(len(seen) == 4 and min(seen.values()) > 40, seen)

    def test_databases_of_answers_no(self):
        for _, report, other in some_pairs("lost", 400):
            answer = within(report, other)
            if answer[0] == "no":
                lost = set(pairs(report, answer[1])) - set(pairs(other, answer[1]))
                self.assertIn(answer[2][report.aliases[0][0]], [row for _, row in lost])

    def test_values_of_answers_in_filters(self):
        # A filter for a value that the program told is no reason for a wrong answer.
        seen = {}
        for rng, report, other in some_pairs("told", 500):
            for call in (within, equally_often):
                answer = call(report, other)
                if answer[0] == "no":
                    values = [cell for rows in answer[1].values() for row in rows for cell in row if cell is not None]
                    one, two = self.filtered(rng, report, values), self.filtered(rng, other, values)
                    for first, second in ((one, two), (report, two), (one, other), (two, one)):
                        words = [within(first, second)[0], within(second, first)[0], equally_often(first, second)[0]]
                        self.assert_words(first, second, " ".join(words))
                        seen[words[0]] = seen.get(words[0], 0) + 1
        self.assertTrue(min(seen.values()) > 100, seen)

    def filtered(self, rng, report, values):
        """Return a report with filters for some of these values in place of its own ones."""
        columns = [(alias, c) for alias, table in report.aliases for c in report.schema.table(table).columns]
        filters = [(rng.choice(columns), rng.choice(values)) for _ in range(rng.choice([0, 1, 1, 2]))]
        kept = list(report.filters)[:5 - len(filters)]
        return Report(report.schema, "r", report.aliases, report.links, [*kept, *filters], report.groups, None)

    def test_changed_answers(self):
        seen = {}
        words = ["m", "n", "o", ("m", ()), ("n", ()), ("m", (0,)), (0,), (0, 0), ("link", 0), ("group", 0), *ANY_VALUES]
        for rng, report, other in some_pairs("changed within", 400):
            first = value = within(report, other)
            pool = words + list(value)
            for _ in range(15):
                value = changed(rng, rng.choice([first, first, value]), pool)
                expected = is_plain_within_answer(report, other, value)
                self.assertIs(is_within_answer(report, other, value), expected, value)
                kind = (value[0] if type(value) is tuple and value and value[0] in ("yes", "no") else "", expected)
                seen[kind] = seen.get(kind, 0) + 1
        self.assertTrue(len(seen) == 5 and min(seen.values()) > 20, seen)

    def test_answers_of_other_reports(self):
        seen = {True: 0, False: 0}
        for _, report, other in some_pairs("others within", 300):
            for one, two in ((report, other), (other, report), (report, report), (other, other)):
                answer = within(one, two)
                for first, second in ((report, other), (other, report), (report, report), (other, other)):
                    expected = is_plain_within_answer(first, second, answer)
                    self.assertIs(is_within_answer(first, second, answer), expected)
                    seen[expected] += 1
        self.assertTrue(min(seen.values()) > 300, seen)

    def test_answers_are_new(self):
        for _, report, other in some_pairs("new", 150):
            for call in (within, equally_often):
                first = call(report, other)
                copied = copy.deepcopy(first)
                self.spoil(first)
                self.assertEqual(call(report, other), copied)

    def spoil(self, value):
        """Change all lists and dicts in a value."""
        for part in value.values() if type(value) is dict else value if type(value) in (list, tuple) else ():
            self.spoil(part)
        if type(value) in (list, dict):
            value.clear()


if __name__ == "__main__":
    unittest.main()
