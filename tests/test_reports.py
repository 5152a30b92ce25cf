import re
import unittest

from countonce.errors import InvalidText
from countonce.reports import Report
from countonce.schemas import Schema
from tests.samples import ANY_VALUES, SALES, SHOP, SMALL, TREE, edited, wrong_row


def report(name="r", aliases=("items i", "orders o"), links=(), filters=(), groups=(), last="rows", end=True):
    """Return the text of a report; the arguments are parts of rows."""
    rows = [f"report {name}"]
    rows += [f"  {'join' if at else 'from'} {alias}" for at, alias in enumerate(aliases)]
    rows += [f"  link {link}" for link in links]
    rows += [f"  where {one}" for one in filters]
    rows += [f"  by {column}" for column in groups]
    return "\n".join(rows + [f"  {last}"] + ["end"] * end)


def is_report_text(schema, text):
    """Tell whether points 8 and 9 hold for a whole text, written once more and in another way."""
    name = "[a-z]{1,8}"
    column = rf"{name}\.{name}"
    rule = (f"report {name}\n  from {name} {name}\n(  join {name} {name}\n){{0,3}}"
            f"(  link {column} = {column}\n){{0,20}}"
            f"(  where {column} = (0|[1-9][0-9]*)\n){{0,5}}(  by {column}\n){{0,3}}  (rows|sum {name})\nend")
    if not re.fullmatch(rule, text):
        return False
    rows = [row.split() for row in text.split("\n")[1:-1]]
    aliases = [(row[2], row[1]) for row in rows if row[0] in ("from", "join")]
    if len(dict(aliases)) < len(aliases) or {one for _, one in aliases} - {table.name for table in schema.tables}:
        return False
    known, bound = set(), set()
    for alias, table in aliases:
        known |= {f"{alias}.{one}" for one in schema.table(table).columns}
        for columns, _, required in schema.table(table).refers:
            bound |= {f"{alias}.{one}" for one in columns if not required}
    used = [word for row in rows for word in row if "." in word]
    groups = [row[1] for row in rows if row[0] == "by"]
    sums = [f"{aliases[0][0]}.{row[1]}" for row in rows if row[0] == "sum"]
    values = [row[3] for row in rows if row[0] == "where"]
    return (set(used + sums) <= known and not bound & set(groups + sums) and len(set(groups)) == len(groups)
            and all(len(value) <= 10 and int(value) <= 10**9 for value in values))


def can_go_on(schema, rows):
    """Tell whether some report's text begins with these rows."""
    for more in ([], ["end"], ["  rows", "end"], [f"  from {schema.tables[0].name} zz", "  rows", "end"]):
        if is_report_text(schema, "\n".join(rows + more)):
            return True
    return False


class ReportCase(unittest.TestCase):
    def setUp(self):
        self.schema = Schema.parse(SHOP)

    def assert_kept(self, text, schema=None):
        schema = schema or self.schema
        found = Report.parse(schema, text)
        self.assertIs(type(found), Report)
        self.assertEqual(str(found), text)
        self.assertTrue(Report.parse(schema, str(found)) == found)
        self.assertTrue(found.schema == schema)
        return found

    def assert_wrong(self, text, row, schema=None):
        schema = schema or self.schema
        with self.assertRaises(InvalidText, msg=text[:2000]) as context:
            Report.parse(schema, text)
        self.assertEqual(context.exception.row, row, text[:2000])
        self.assertIs(type(context.exception.row), int)
        rows = text.split("\n")
        self.assertTrue(row == 0 or can_go_on(schema, rows[:row]), text[:2000])
        self.assertFalse(row < len(rows) and can_go_on(schema, rows[:row + 1]), text[:2000])

    def assert_row(self, text, row):
        """Check that a text has this wrong row, or is kept if it is None."""
        if row is None:
            self.assert_kept(text)
        else:
            self.assert_wrong(text, row)


class FormTest(ReportCase):
    def test_text_of_the_document(self):
        for schema in (Schema.parse(SMALL), Schema.parse(SHOP)):
            found = self.assert_kept(SALES, schema)
            self.assertEqual(found.name, "sales")
            self.assertEqual(found.aliases, (("i", "items"), ("o", "orders")))
            self.assertEqual(found.links, ((("i", "order"), ("o", "id")),))
            self.assertEqual(found.filters, ((("o", "customer"), 7),))
            self.assertEqual(found.groups, (("o", "customer"),))
            self.assertEqual(found.measure, "price")

    def test_examples_of_the_interface(self):
        schema = Schema.parse(SMALL)
        text = "report sales\n  from items i\n  join orders o\n  link i.order = o.id\n  by o.customer\n  sum price\nend"
        found = self.assert_kept(text, schema)
        self.assertEqual([found.aliases, found.links, found.groups, found.measure],
                         [(("i", "items"), ("o", "orders")), ((("i", "order"), ("o", "id")),), (("o", "customer"),),
                          "price"])
        self.assertEqual(found.filters, ())
        text = "report lines\n  from orders o\n  join items i\n  link i.order = o.id\n  rows\nend"
        found = self.assert_kept(text, schema)
        self.assertEqual([found.name, found.groups, found.measure], ["lines", (), None])

    def test_kinds_of_the_attributes(self):
        text = report(links=["i.order = o.id"] * 2, filters=["i.line = 3"], groups=["o.id", "i.line"], last="sum line")
        found = self.assert_kept(text)
        for values in (found.aliases, found.links, found.filters, found.groups):
            self.assertIs(type(values), tuple)
            for value in values:
                self.assertIs(type(value), tuple)
        self.assertEqual([type(one) for link in found.links for one in link], [tuple] * 4)
        self.assertEqual([(type(column), type(value)) for column, value in found.filters], [(tuple, int)])
        self.assertEqual([type(found.name), type(found.measure), type(found.schema)], [str, str, Schema])

    def test_smallest_report(self):
        found = self.assert_kept("report r\n  from items i\n  rows\nend")
        self.assertEqual([found.aliases, found.links, found.filters, found.groups, found.measure],
                         [(("i", "items"),), (), (), (), None])

    def test_arguments_by_name(self):
        self.assertEqual(str(Report.parse(text=SALES, schema=self.schema)), SALES)
        self.assertEqual(str(Report.parse(self.schema, text=SALES)), SALES)

    def test_order_is_kept(self):
        links = ["o.id = i.order", "i.order = o.id", "i.line = i.price"]
        filters = ["o.id = 9", "i.line = 3", "o.id = 1"]
        groups = ["o.id", "i.line", "i.order"]
        found = self.assert_kept(report(links=links, filters=filters, groups=groups, last="sum line"))
        self.assertEqual(found.links, ((("o", "id"), ("i", "order")), (("i", "order"), ("o", "id")),
                                       (("i", "line"), ("i", "price"))))
        self.assertEqual(found.filters, ((("o", "id"), 9), (("i", "line"), 3), (("o", "id"), 1)))
        self.assertEqual(found.groups, (("o", "id"), ("i", "line"), ("i", "order")))


class EqualTest(ReportCase):
    def test_equal_exactly_if_the_texts_are(self):
        base = dict(links=["i.order = o.id", "i.line = o.id"], filters=["o.customer = 7", "o.id = 7"],
                    groups=["o.customer", "i.line"], last="sum price")
        changes = [
            {}, {"name": "s"}, {"aliases": ["items i", "orders o", "orders p"]},
            {"links": ["o.id = i.order", "i.line = o.id"]}, {"links": base["links"][::-1]},
            {"links": base["links"][:1]},
            {"links": []}, {"links": base["links"] + base["links"][:1]}, {"filters": ["o.customer = 8", "o.id = 7"]},
            {"filters": ["o.id = 7", "o.customer = 7"]}, {"filters": ["o.id = 7"]}, {"filters": ["o.customer = 7",
                                                                                                 "i.line = 7"]},
            {"filters": ["o.customer = 7", "o.id = 7", "o.id = 7"]}, {"groups": ["i.line", "o.customer"]},
            {"groups": ["i.line"]}, {"groups": []}, {"last": "sum line"}, {"last": "rows"}]
        texts = [report(**{**base, **change}) for change in changes]
        texts.append(texts[0].replace("items i", "items a").replace("i.", "a."))
        texts.append(report(aliases=["items i", "orders o", "orders p"], links=["i.order = o.id"], last="sum price"))
        texts.append(report(aliases=["items i", "orders p", "orders o"], links=["i.order = o.id"], last="sum price"))
        self.assertEqual(len(set(texts)), len(texts))
        for text in texts:
            for other in texts:
                one, two = Report.parse(self.schema, text), Report.parse(self.schema, other)
                self.assertIs(one == two, text == other, (text, other))
                self.assertIs(one != two, text != other, (text, other))

    def test_schemas_count(self):
        one = Report.parse(Schema.parse(SHOP), SALES)
        self.assertTrue(one == Report.parse(Schema.parse(SHOP), SALES))
        for text in (SMALL, SHOP + "\ntable more\n  column x\n  key x\nend", SHOP.replace("column name", "column nam")):
            other = Report.parse(Schema.parse(text), SALES)
            self.assertEqual(str(one), str(other))
            self.assertFalse(one == other)
            self.assertTrue(one != other)

    def test_no_other_value_is_equal(self):
        found = Report.parse(self.schema, SALES)
        for value in [*ANY_VALUES, SALES, self.schema, found.aliases, Report, object()]:
            self.assertFalse(found == value)
            self.assertFalse(value == found)
            self.assertTrue(found != value)


class BoundsTest(ReportCase):
    def test_aliases(self):
        aliases = ["items a", "items b", "orders c", "clients d", "items e"]
        self.assertEqual(len(self.assert_kept(report(aliases=aliases[:1])).aliases), 1)
        self.assertEqual(len(self.assert_kept(report(aliases=aliases[:4])).aliases), 4)
        self.assert_wrong(report(aliases=aliases), 5)
        self.assert_wrong(report(aliases=[]), 1)
        self.assert_wrong("report r\n  join items i\n  rows\nend", 1)

    def test_links(self):
        links = ["i.order = o.id", "i.line = i.price", "o.id = o.id"] * 7
        for count in (0, 1, 19, 20):
            self.assertEqual(len(self.assert_kept(report(links=links[:count])).links), count)
        self.assert_wrong(report(links=links), 23)
        self.assert_wrong(report(links=links[:1] * 21), 23)

    def test_filters(self):
        filters = ["i.order = 1", "i.line = 2", "i.price = 3", "o.id = 4", "o.customer = 5", "o.note = 6"]
        for count in (0, 1, 4, 5):
            self.assertEqual(len(self.assert_kept(report(filters=filters[:count])).filters), count)
        self.assert_wrong(report(filters=filters), 8)
        self.assert_wrong(report(filters=filters[:1] * 6), 8)

    def test_groups(self):
        groups = ["i.order", "i.line", "o.id", "o.customer"]
        for count in (0, 1, 2, 3):
            self.assertEqual(len(self.assert_kept(report(groups=groups[:count])).groups), count)
        self.assert_wrong(report(groups=groups), 6)

    def test_names(self):
        for name in ("a", "z", "abcdefgh", "zzzzzzzz"):
            found = self.assert_kept(f"report {name}\n  from items {name}\n  by {name}.line\n  rows\nend")
            self.assertEqual([found.name, found.aliases, found.groups], [name, ((name, "items"),), ((name, "line"),)])
        for name in ("", "abcdefghi", "A", "aB", "a1", "7", "a_b", "a-b", "a.b", ".", "=", "`", "{", "x" * 10000):
            self.assert_wrong(report(name), 0)
            self.assert_wrong(report(aliases=[f"items {name}"]), 1)
            self.assert_wrong(report(aliases=["items i", f"items {name}"]), 2)
            self.assert_wrong(report(aliases=[f"{name} i"]), 1)
            self.assert_wrong(report(links=[f"{name}.line = i.line"]), 3)
            self.assert_wrong(report(links=[f"i.line = i.{name}"]), 3)
            self.assert_wrong(report(filters=[f"i.{name} = 1"]), 3)
            self.assert_wrong(report(groups=[f"{name}.line"]), 3)
            self.assert_wrong(report(last=f"sum {name}"), 3)

    def test_values(self):
        for value in (0, 1, 7, 9, 10, 100, 999999999, 10**9):
            found = self.assert_kept(report(filters=[f"i.line = {value}"]))
            self.assertEqual(found.filters, ((("i", "line"), value),))
        for value in (10**9 + 1, 1999999999, 9999999999, 10**10, 10**18):
            self.assert_wrong(report(filters=[f"i.line = {value}"]), 3)
        for value in ("00", "01", "007", "0000000001", "00000000000", "01000000000", "0" * 5000 + "1", "-1", "-0",
                      "+1", "1.0",
                      "1e3", "1_0", "x", "", " ", "0x1", "i.line", "none", "1 1", "1,", "\u0663", "\u00b2"):
            self.assert_wrong(report(filters=[f"i.line = {value}"]), 3)
            self.assert_wrong(report(filters=["o.id = 1", f"i.line = {value}"]), 4)

    def test_values_of_many_digits(self):
        for count in (11, 100, 4299, 4300, 4301, 5000, 19000):
            for value in ("1" * count, "9" * count, "0" * count, "0" * (count - 1) + "7", "1" + "0" * count):
                self.assert_wrong(report(filters=[f"i.line = {value}"]), 3)
                self.assert_wrong("report " + value, 0)
                self.assert_wrong(report(last="sum " + value), 3)


class KeptTest(ReportCase):
    def test_column_linked_with_itself(self):
        found = self.assert_kept(report(links=["i.line = i.line"]))
        self.assertEqual(found.links, ((("i", "line"), ("i", "line")),))

    def test_link_or_filter_twice(self):
        found = self.assert_kept(report(links=["i.order = o.id"] * 2, filters=["i.line = 3"] * 2))
        self.assertEqual([len(found.links), len(found.filters)], [2, 2])
        self.assertEqual([found.links[0], found.filters[0]], [found.links[1], found.filters[1]])

    def test_filters_with_different_values(self):
        found = self.assert_kept(report(filters=["i.line = 3", "i.line = 4"]))
        self.assertEqual([value for _, value in found.filters], [3, 4])

    def test_one_table_by_two_aliases(self):
        found = self.assert_kept(report(aliases=["items i", "items j"], links=["i.order = j.order"],
                                        groups=["j.line", "i.line"]))
        self.assertEqual(found.aliases, (("i", "items"), ("j", "items")))
        self.assertEqual(found.groups, (("j", "line"), ("i", "line")))

    def test_names_that_are_called_like_rows_begin_or_tables(self):
        words = ["report", "from", "join", "link", "where", "by", "sum", "rows", "end", "items", "orders", "id"]
        for word in words:
            for other in words:
                if word != other:
                    text = report(word, [f"items {word}", f"orders {other}"], [f"{word}.order = {other}.id"],
                                  [f"{other}.id = 3"], [f"{other}.customer"], "sum price")
                    found = self.assert_kept(text)
                    self.assertEqual([found.name, found.aliases], [word, ((word, "items"), (other, "orders"))])
                    self.assertEqual(found.links, (((word, "order"), (other, "id")),))

    def test_tables_and_columns_that_are_called_like_rows_begin(self):
        words = ["report", "from", "join", "link", "where", "by", "sum", "rows", "end"]
        for one, two, three in zip(words, words[1:] + words, words[2:] + words):
            schema = Schema.parse(f"table {one}\n  column {two}\n  column {three}\n  key {two}\nend")
            text = report("r", [f"{one} {three}"], [f"{three}.{two} = {three}.{three}"], [f"{three}.{two} = 0"],
                          [f"{three}.{three}"], f"sum {two}")
            self.assertEqual(self.assert_kept(text, schema).measure, two)

    def test_aliases_that_begin_one_another(self):
        found = self.assert_kept(report(aliases=["items i", "orders ii", "clients iii"], links=["ii.id = iii.id"],
                                        groups=["ii.id", "iii.id"]))
        self.assertEqual(found.groups, (("ii", "id"), ("iii", "id")))

    def test_columns_of_an_optional_reference(self):
        self.assert_kept(report(links=["o.note = o.id"]))
        self.assert_kept(report(links=["i.line = o.note"], filters=["o.note = 4"]))
        self.assert_kept(report(aliases=["orders o"], links=["o.note = o.note"]))

    def test_columns_of_a_required_reference(self):
        self.assert_kept(report(groups=["o.customer", "i.order"]))
        self.assertEqual(self.assert_kept(report(last="sum order")).measure, "order")
        self.assertEqual(self.assert_kept(report(aliases=["orders o"], last="sum customer")).measure, "customer")


class WrongRowsTest(ReportCase):
    def test_alias_twice(self):
        self.assert_wrong(report(aliases=["items i", "orders i"]), 2)
        self.assert_wrong(report(aliases=["items i", "items i"]), 2)
        self.assert_wrong(report(aliases=["items i", "orders o", "clients c", "orders o"]), 4)

    def test_tables_that_there_are_not(self):
        for wrong in ("item i", "itemss i", "i items", "Items i", "none i"):
            self.assert_wrong(report(aliases=[wrong]), 1)
            self.assert_wrong(report(aliases=["items a", wrong]), 2)
        self.assert_wrong(report(aliases=["clients c"]), 1, Schema.parse(SMALL))

    def test_columns_that_there_are_not(self):
        for wrong in ("i.id", "o.line", "x.line", "items.line", "line", "i", "i.", ".line", "i.line.", ".i.line",
                      "i..line", "i.line.x",
                      "i line", "i.lin", "i.linee", "I.line", "i.Line", "", ".", "7", "c.id", "i:line", "i.line.line"):
            self.assert_wrong(report(links=[f"{wrong} = i.line"]), 3)
            self.assert_wrong(report(links=[f"i.line = {wrong}"]), 3)
            self.assert_wrong(report(filters=[f"{wrong} = 7"]), 3)
            self.assert_wrong(report(groups=[wrong]), 3)
            self.assert_wrong(report(groups=["i.line", wrong]), 4)

    def test_forms_of_links_and_filters(self):
        for wrong in ("i.order o.id", "i.order=o.id", "i.order = ", "= o.id", "i.order == o.id", "i.order = o.id =",
                      "i.order",
                      "i.order = o.id = i.line", "i.order = 7", "7 = i.order", "i.order -> o.id",
                      "i.order = o.id o.id", "",
                      "i.order =", "= i.order = o.id", "i.order  o.id", "i.order i.line o.id"):
            self.assert_wrong(report(links=[wrong]), 3)
        for wrong in ("i.order 7", "i.order=7", "i.order = ", "= 7", "i.order == 7", "7", "i.order",
                      "i.order = o.id", "7 = i.order",
                      "i.order = 7 = 7", "i.order = 7 7", "", "i.order =", "i.order  7", "i.order = i.order = 7",
                      "i.order 7 7"):
            self.assert_wrong(report(filters=[wrong]), 3)
        for wrong in ("i.line i.order", "i.line o.id", "i.line = 7", "i.line,", "", "i.line "):
            self.assert_wrong(report(groups=[wrong]), 3)

    def test_group_column_twice(self):
        self.assert_wrong(report(groups=["i.line", "i.line"]), 4)
        self.assert_wrong(report(groups=["i.line", "o.id", "i.line"]), 5)

    def test_group_column_or_measure_in_an_optional_reference(self):
        self.assert_wrong(report(groups=["o.note"]), 3)
        self.assert_wrong(report(groups=["i.line", "o.note"]), 4)
        self.assert_wrong(report(aliases=["orders o"], last="sum note"), 2)
        schema = Schema.parse(TREE)
        for column in ("y", "z"):
            self.assert_wrong(report(aliases=["a b"], groups=[f"b.{column}"]), 1)
            self.assert_wrong(report(aliases=["a b"], groups=[f"b.{column}"]), 2, schema)
            self.assert_wrong(report(aliases=["a b"], last=f"sum {column}"), 2, schema)

    def test_measure_is_a_column_of_the_measured_alias(self):
        for wrong in ("id", "customer", "note", "i.price", "i", "pric", "prices", "price price", "price ", "", "rows"):
            self.assert_wrong(report(last=f"sum {wrong}"), 3)
        for last in ("sum", "row", "rows ", " rows", "rows i", "rows rows", "sum  price", "Rows", "count"):
            self.assert_wrong(report(last=last), 3)
        self.assertEqual(self.assert_kept(report(aliases=["orders o", "items i"], last="sum id")).measure, "id")
        self.assert_wrong(report(aliases=["orders o", "items i"], last="sum price"), 3)

    def test_rows_out_of_order_missing_and_doubled(self):
        rows = ["report sales", "  from items i", "  join orders o", "  link i.order = o.id", "  where o.customer = 7",
                "  by o.customer", "  sum price", "end"]
        self.assert_kept("\n".join(rows))
        for at, row in ((0, 0), (1, 1), (2, 2), (3, None), (4, None), (5, None), (6, 6), (7, 7)):
            self.assert_row("\n".join(rows[:at] + rows[at + 1:]), row)
        for at, row in ((0, 1), (1, 2), (2, 3), (3, None), (4, None), (5, 6), (6, 7), (7, 8)):
            self.assert_row("\n".join(rows[:at + 1] + rows[at:]), row)
        for at, row in ((0, 0), (1, 1), (2, 2), (3, 4), (4, 5), (5, 6), (6, 6)):
            self.assert_wrong("\n".join(rows[:at] + [rows[at + 1], rows[at]] + rows[at + 2:]), row)
        self.assert_wrong("\n".join([*rows[:6], "  rows", *rows[6:]]), 7)
        self.assert_wrong("\n".join([*rows[:7], "  rows", *rows[7:]]), 7)

    def test_behind_the_end(self):
        for more in ("end", "", " ", "  rows", "  sum price", "  by i.line", "x", "report", "report r", SALES, SHOP):
            self.assert_wrong(SALES + "\n" + more, 8)

    def test_spaces(self):
        rows = SALES.split("\n")
        for at, row in enumerate(rows):
            changed = {row + " ", " " + row, row.replace(" ", "  "), row.lstrip() if row[0] == " " else "  " + row,
                       row.replace(" ", "\t"), row.upper(), row + "\r", row[1:], row + ","}
            changed |= {row[:place] + " " + row[place:] for place in range(len(row) + 1)}
            changed |= {row[:place] + row[place + 1:] for place in range(len(row)) if row[place] == " "}
            for wrong in changed - {row}:
                self.assert_wrong("\n".join([*rows[:at], wrong, *rows[at + 1:]]), at)

    def test_empty_row_anywhere(self):
        rows = SALES.split("\n")
        for at in range(len(rows) + 1):
            self.assert_wrong("\n".join([*rows[:at], "", *rows[at:]]), at)

    def test_newlines(self):
        self.assert_wrong(SALES + "\n", 8)
        self.assert_wrong(SALES + "\n\n", 8)
        self.assert_wrong("\n", 0)
        self.assert_wrong("\n" + SALES, 0)
        for sign in ("\r", "\r\n", "\x0b", "\x0c", "\u2028", " ", ";"):
            self.assert_wrong(SALES.replace("\n", sign), 0)

    def test_text_that_ends_too_early(self):
        self.assert_wrong("", 0)
        rows = SALES.split("\n")
        for count in range(1, len(rows)):
            self.assert_wrong("\n".join(rows[:count]), count)

    def test_long_texts(self):
        self.assert_wrong("\n".join(["report r", "  from items i"] + ["  link i.line = i.line"] * 850), 22)
        self.assert_wrong("\n" * 20000, 0)
        self.assert_wrong("report " + "r" * 19000, 0)
        self.assert_wrong(report(groups=["i.line " * 2500]), 3)


class EditedTextsTest(ReportCase):
    """Texts near a right one: the row is wrong exactly if no report's text goes on with it."""

    BASE = ["report sales", "  from orders o", "  join items i", "  join orders p", "  link i.order = o.id",
            "  link p.note = o.id", "  where o.customer = 10", "  by o.customer", "  by i.line", "  sum customer",
            "end"]
    POOL = BASE + [
        "", "  join clients i", "  join clients c", "  link o.note = o.note", "  link c.id = o.customer",
        "  where o.note = 0",
        "  where i.line = 1000000000", "  where i.line = 1000000001", "  where i.line = 01", "  by p.note",
        "  by i.price",
        "  by c.id", "  sum note", "  sum price", "  rows", "report r", "  from items i", " end", "end "]

    def test_edited_texts(self):
        count = 0
        for rows in edited(self.BASE, self.POOL):
            text = "\n".join(rows)
            row = wrong_row(lambda one: Report.parse(self.schema, one), text)
            rows = text.split("\n")
            if row is None:
                self.assertTrue(is_report_text(self.schema, text), text)
                self.assertEqual(str(Report.parse(self.schema, text)), text)
            else:
                count += 1
                self.assertTrue(row == 0 or can_go_on(self.schema, rows[:row]), (text, row))
                self.assertFalse(row < len(rows) and can_go_on(self.schema, rows[:row + 1]), (text, row))
                self.assertFalse(is_report_text(self.schema, text), (text, row))
        self.assertGreater(count, 1000)


if __name__ == "__main__":
    unittest.main()
