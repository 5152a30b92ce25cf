import re
import unittest

from countonce.errors import InvalidText, UnknownTable
from countonce.schemas import Schema, Table
from tests.samples import ANY_VALUES, SHOP, SMALL, edited, wrong_row


def table(name="a", columns="x y z", keys=("x",), refers=(), end=True):
    """Return the text of a table; refers are rows without the two spaces."""
    rows = [f"table {name}"]
    rows += [f"  column {column}" for column in columns.split()]
    rows += [f"  key {key}" for key in keys]
    rows += [f"  {refer}" for refer in refers]
    return "\n".join(rows + ["end"] * end)


def is_schema_text(text):
    """Tell whether points 5 and 6 hold for a whole text, written once more and in another way."""
    name = "[a-z]{1,8}"
    rule = (f"table {name}\n(  column {name}\n){{1,5}}(  key {name}( {name}){{0,2}}\n){{1,3}}"
            f"(  (ref|optional)( {name}){{1,3}} -> {name}\n){{0,2}}end\n")
    if not re.fullmatch(f"({rule}){{1,5}}", text + "\n"):
        return False
    mains = {}
    for part in re.findall(rule.replace("(", "(?:"), text + "\n"):
        rows = [row.split() for row in part.split("\n")]
        own = rows[0][1]
        columns = [row[1] for row in rows if row[:1] == ["column"]]
        keys = [row[1:] for row in rows if row[:1] == ["key"]]
        refers = [row for row in rows if "->" in row]
        mains[own] = [*mains.get(own, []), keys[0]]
        lists = keys + [row[1:-2] for row in refers]
        if len(set(columns)) < len(columns) or len(mains[own]) > 1:
            return False
        if any(len(set(one)) < len(one) or set(one) - set(columns) for one in lists):
            return False
        if any(set(one) <= set(keys[at]) for one in keys for at in range(len(keys)) if one is not keys[at]):
            return False
        used = [column for row in refers for column in row[1:-2]]
        if len(set(used)) < len(used):
            return False
        for word, *names, _, target in refers:
            if target not in mains or (target == own and word == "ref"):
                return False
            if len(mains[target][0]) != len(names):
                return False
            if word == "optional" and any(column in key for key in keys for column in names):
                return False
    return True


def can_go_on(rows):
    """Tell whether some schema's text begins with these rows."""
    columns = ["zz"] + [row[9:] for row in rows if row.startswith("  column ")]
    for more in ([], ["end"], [f"  key {columns[-1]}", "end"], ["  column zz", "  key zz", "end"],
                 ["table zz", "  column zz", "  key zz", "end"]):
        if is_schema_text("\n".join(rows + more)):
            return True
    return False


class SchemaCase(unittest.TestCase):
    def assert_kept(self, text):
        schema = Schema.parse(text)
        self.assertIs(type(schema), Schema)
        self.assertEqual(str(schema), text)
        self.assertTrue(Schema.parse(str(schema)) == schema)
        return schema

    def assert_wrong(self, text, row):
        with self.assertRaises(InvalidText, msg=text) as context:
            Schema.parse(text)
        self.assertEqual(context.exception.row, row, text)
        self.assertIs(type(context.exception.row), int)
        rows = text.split("\n")
        self.assertTrue(row == 0 or can_go_on(rows[:row]), text)
        self.assertFalse(row < len(rows) and can_go_on(rows[:row + 1]), text)


class FormTest(SchemaCase):
    def test_text_of_the_document_to_the_letter(self):
        # Its first table has a name of nine letters, point 4 says one to eight.
        text = SHOP.replace("clients", "customers")
        self.assertEqual(wrong_row(Schema.parse, text), 0)
        self.assertEqual(wrong_row(Schema.parse, text.replace("table customers", "table customer")), 10)

    def test_text_of_the_document(self):
        schema = self.assert_kept(SHOP)
        self.assertIs(type(schema.tables), tuple)
        self.assertEqual([one.name for one in schema.tables], ["clients", "orders", "items"])
        clients, orders, items = schema.tables
        self.assertEqual([clients.columns, clients.unique, clients.refers], [("id", "name"), (("id",),), ()])
        self.assertEqual([orders.columns, orders.unique], [("id", "customer", "note"), (("id",),)])
        self.assertEqual(orders.refers, ((("customer",), "clients", True), (("note",), "orders", False)))
        self.assertEqual([items.columns, items.unique], [("order", "line", "price"), (("order", "line"),)])
        self.assertEqual(items.refers, ((("order",), "orders", True),))

    def test_kinds_of_the_attributes(self):
        for one in Schema.parse(SHOP).tables:
            self.assertIs(type(one), Table)
            self.assertIs(type(one.name), str)
            for value in (one.columns, one.unique, one.refers, *one.unique, *one.refers):
                self.assertIs(type(value), tuple)
            for columns, target, required in one.refers:
                self.assertEqual([type(columns), type(target), type(required)], [tuple, str, bool])

    def test_example_of_the_interface(self):
        items = self.assert_kept(SMALL).table("items")
        self.assertEqual([items.columns, items.unique, items.refers],
                         [("order", "line", "price"), (("order", "line"),), ((("order",), "orders", True),)])

    def test_wrong_example_of_the_interface(self):
        self.assert_wrong("table a\n  column x\n  key x\n  ref x -> b\nend", 3)

    def test_arguments_by_name(self):
        schema = Schema.parse(text=SMALL)
        self.assertEqual(schema.table(name="items").name, "items")

    def test_several_keys_and_columns_of_a_reference_in_order(self):
        text = "\n".join([table("a", "x y z", ["y x", "z"]), table("b", "k p q", ["k", "q p"], ["ref q p -> a"])])
        schema = self.assert_kept(text)
        self.assertEqual(schema.table("a").unique, (("y", "x"), ("z",)))
        self.assertEqual(schema.table("b").unique, (("k",), ("q", "p")))
        self.assertEqual(schema.table("b").refers, ((("q", "p"), "a", True),))

    def test_required_and_optional_references_in_any_order(self):
        one, two = "ref y -> a", "optional z -> a"
        for refers in ([one, two], [two, one]):
            schema = self.assert_kept(table() + "\n" + table("b", refers=refers))
            expected = {one: (("y",), "a", True), two: (("z",), "a", False)}
            self.assertEqual(schema.table("b").refers, tuple(expected[row] for row in refers))
        for refers in (["ref y -> a", "ref z -> a"], ["optional y -> a", "optional z -> b"]):
            self.assert_kept(table() + "\n" + table("b", refers=refers))

    def test_reference_from_a_key(self):
        self.assert_kept(table() + "\n" + table("b", refers=["ref x -> a"]))

    def test_optional_reference_to_the_own_table(self):
        schema = self.assert_kept(table("a", refers=["optional y -> a"]))
        self.assertEqual(schema.table("a").refers, ((("y",), "a", False),))
        schema = self.assert_kept(table("a", "v w x y", ["v w"], ["optional y x -> a"]))
        self.assertEqual(schema.table("a").refers, ((("y", "x"), "a", False),))

    def test_reference_to_any_table_above(self):
        text = "\n".join([table("a"), table("b"), table("c", refers=["ref x -> a", "optional y -> b"])])
        self.assertEqual([one[1] for one in self.assert_kept(text).table("c").refers], ["a", "b"])

    def test_two_schemas_know_nothing_of_one_another(self):
        first, second = Schema.parse(SMALL), Schema.parse(SHOP)
        self.assertEqual([str(first), str(second), len(first.tables)], [SMALL, SHOP, 2])


class EqualTest(unittest.TestCase):
    def test_equal_exactly_if_the_texts_are(self):
        base = [table(), table("b", "p q r s", ["p", "q r"], ["ref r -> a", "optional s -> a"])]
        changed = [
            [table("c"), base[1].replace("-> a", "-> c")],
            [table(columns="x y w"), base[1]],
            [table(columns="x z y"), base[1]],
            [table(columns="x y"), base[1]],
            [table(keys=["y"]), base[1]],
            [table(keys=["x", "y"]), base[1]],
            [base[0], base[1].replace("key q r", "key r q")],
            [base[0], base[1].replace("  key p\n  key q r", "  key q\n  key p")],
            [base[0], base[1].replace("ref r", "optional r").replace("key q r", "key q")],
            [base[0], base[1].replace("optional s", "ref s")],
            [base[0], base[1].replace("ref r", "ref p")],
            [base[0], table("b", "p q r s", ["p", "q r"], ["optional s -> a", "ref r -> a"])],
            [base[0], table("b", "p q r s", ["p", "q r"], ["ref r -> a"])],
            [base[0], base[1].replace("optional s -> a", "optional s -> b")],
            [base[0], base[1], table("c")],
            [base[0]],
            [base[0], table("b")],
            [table("b"), base[0]],
        ]
        texts = ["\n".join(parts) for parts in [base, *changed]]
        self.assertEqual(len(set(texts)), len(texts))
        for text in texts:
            for other in texts:
                one, two = Schema.parse(text), Schema.parse(other)
                self.assertIs(one == two, text == other, (text, other))
                self.assertIs(one != two, text != other, (text, other))

    def test_no_other_value_is_equal(self):
        schema = Schema.parse(SMALL)
        for value in [*ANY_VALUES, SMALL, schema.tables, [SMALL], (SMALL,), schema.tables[0], Schema, object()]:
            self.assertFalse(schema == value)
            self.assertFalse(value == schema)
            self.assertTrue(schema != value)


class TableTest(unittest.TestCase):
    def test_each_table(self):
        schema = Schema.parse(SHOP)
        for one in schema.tables:
            self.assertIs(schema.table(one.name), one)

    def test_unknown_names(self):
        schema = Schema.parse(SHOP)
        for name in ("", "order", "orderss", "Orders", " orders", "orders ", "o", "id", "table", "end", "rders",
                     "clientsorders", "clients orders", "\n", "x" * 9999, "\u00e9"):
            with self.assertRaises(UnknownTable) as context:
                schema.table(name)
            self.assertEqual(context.exception.name, name)

    def test_table_whose_name_begins_another_one(self):
        schema = Schema.parse("\n".join(table(name, columns) for name, columns in
                                        (("ab", "x y"), ("a", "x"), ("abc", "x y z"))))
        self.assertEqual([schema.table(name).columns for name in ("a", "ab", "abc")],
                         [("x",), ("x", "y"), ("x", "y", "z")])


class BoundsTest(SchemaCase):
    def test_tables(self):
        one = table("a", "x", ["x"])
        self.assert_kept(one)
        texts = [one.replace("table a", f"table {name}") for name in "abcdef"]
        self.assertEqual(len(self.assert_kept("\n".join(texts[:5])).tables), 5)
        self.assert_wrong("\n".join(texts), 20)

    def test_columns(self):
        self.assertEqual(self.assert_kept(table(columns="x")).table("a").columns, ("x",))
        self.assertEqual(len(self.assert_kept(table(columns="x b c d e")).table("a").columns), 5)
        self.assert_wrong(table(columns="x b c d e f"), 6)
        self.assert_wrong(table(columns=""), 1)

    def test_keys(self):
        self.assert_kept(table(keys=["x"]))
        self.assertEqual(self.assert_kept(table(keys=["x", "y", "z"])).table("a").unique, (("x",), ("y",), ("z",)))
        self.assert_wrong(table(columns="w x y z", keys=["x", "y", "z", "w"]), 8)
        self.assert_wrong(table(keys=[]), 4)

    def test_columns_of_a_key(self):
        for key in ("x", "z y", "y z x"):
            self.assertEqual(self.assert_kept(table(keys=[key])).table("a").unique, (tuple(key.split()),))
        self.assert_wrong(table(columns="w x y z", keys=["x y z w"]), 5)
        self.assert_wrong(table(keys=[""]), 4)
        self.assert_wrong("table a\n  column x\n  key\nend", 2)

    def test_references(self):
        above = table() + "\n"
        self.assertEqual(self.assert_kept(above + table("b")).table("b").refers, ())
        two = ["ref x -> a", "ref y -> a"]
        self.assertEqual(len(self.assert_kept(above + table("b", refers=two)).table("b").refers), 2)
        for third in ("ref z -> a", "optional z -> a", "optional z -> b"):
            self.assert_wrong(above + table("b", refers=[*two, third]), 13)

    def test_columns_of_a_reference(self):
        for count in (1, 2, 3):
            names = " ".join("pqr"[:count])
            text = table("a", "p q r", [names]) + "\n" + table("b", "k p q r", ["k"], [f"ref {names} -> a"])
            self.assertEqual(len(self.assert_kept(text).table("b").refers[0][0]), count)
        for names in ("", " ", "p", "p q", "p q r", "p q r k"):
            for count in (1, 2, 3):
                if len(names.split()) != count:
                    text = table("a", "p q r", [" ".join("pqr"[:count])]) + "\n"
                    self.assert_wrong(text + table("b", "k p q r", ["k"], [f"ref {names} -> a"]), 12)

    def test_names(self):
        for name in ("a", "z", "abcdefgh", "zzzzzzzz"):
            schema = self.assert_kept(f"table {name}\n  column {name}\n  key {name}\nend")
            self.assertEqual(schema.tables[0].unique, ((name,),))
        for name in ("", "abcdefghi", "A", "aB", "a1", "1", "a_b", "a-b", "a.b", "->", "`", "{", "x" * 10000):
            self.assert_wrong(f"table {name}\n  column x\n  key x\nend", 0)
            self.assert_wrong(f"table x\n  column {name}\n  key x\nend", 1)
            self.assert_wrong(f"table x\n  column x\n  key {name}\nend", 2)
            self.assert_wrong(f"table x\n  column x\n  key x\n  optional {name} -> x\nend", 3)
            self.assert_wrong(f"table x\n  column x\n  column y\n  key x\n  optional y -> {name}\nend", 4)


class WordsTest(SchemaCase):
    def test_names_that_are_words_of_the_text_form(self):
        words = ("table", "column", "key", "ref", "optional", "end")
        for word in words:
            others = [other for other in words if other != word][:2]
            first = table(word, " ".join([word, *others]), [f"{word} {others[0]}", others[1]])
            schema = self.assert_kept(first)
            self.assertEqual(schema.table(word).columns, (word, *others))
            self.assertEqual(schema.table(word).unique, ((word, others[0]), (others[1],)))
            main = table(word, f"{word} zz", ["zz"], [f"optional {word} -> {word}"])
            self.assertEqual(self.assert_kept(main).table(word).refers, (((word,), word, False),))
            second = table("zz", f"{word} x", ["x"], [f"ref {word} -> {word}"])
            self.assertEqual(self.assert_kept(main + "\n" + second).table("zz").refers, (((word,), word, True),))

    def test_names_that_begin_one_another(self):
        text = table("ab", "ab a abc", ["ab", "a", "abc"]) + "\n" + table(
            "a", "abc ab a", ["abc a"], ["optional ab -> ab"])
        schema = self.assert_kept(text)
        self.assertEqual(schema.table("ab").unique, (("ab",), ("a",), ("abc",)))
        self.assertEqual(schema.table("a").unique, (("abc", "a"),))
        self.assertEqual(schema.table("a").refers, ((("ab",), "ab", False),))


class WrongRowsTest(SchemaCase):
    def test_names_twice(self):
        self.assert_wrong(table() + "\n" + table("b") + "\n" + table("a"), 12)
        self.assert_wrong(table() + "\n" + table("a"), 6)
        self.assert_wrong(table(columns="x y x"), 3)
        self.assert_wrong(table(columns="x x"), 2)

    def test_column_twice_in_a_key_or_a_reference(self):
        self.assert_wrong(table(keys=["x x"]), 4)
        self.assert_wrong(table(keys=["z", "x y x"]), 5)
        above = table("a", "x y z", ["x y"]) + "\n"
        for word in ("ref", "optional"):
            self.assert_wrong(above + table("b", "k x y", ["k"], [f"{word} x x -> a"]), 11)

    def test_columns_that_there_are_not(self):
        self.assert_wrong(table(keys=["w"]), 4)
        self.assert_wrong(table(keys=["x w"]), 4)
        self.assert_wrong(table(keys=["x", "y w"]), 5)
        for word in ("ref", "optional"):
            self.assert_wrong(table() + "\n" + table("b", refers=[f"{word} w -> a"]), 11)
        self.assert_wrong(table("a", "v") [:-4] + "\n  key x\nend", 2)

    def test_key_that_contains_another_one(self):
        for one, two in (("x", "x y"), ("y", "x y"), ("x", "x"), ("x y", "x y"), ("x y", "y x"), ("x z", "y z x"),
                         ("z x", "x y z"), ("x y z", "z x y"), ("y", "x y z")):
            self.assert_wrong(table(keys=[one, two]), 5)
            self.assert_wrong(table(keys=[two, one]), 5)
            self.assert_wrong(table(columns="w x y z", keys=["w", one, two]), 7)
            self.assert_wrong(table(columns="w x y z", keys=["w", two, one]), 7)
            self.assert_wrong(table(columns="w x y z", keys=[two, "w", one]), 7)
        for keys in (["x y", "y z"], ["x y", "y z", "z x"], ["x", "y z"], ["y z", "x"]):
            self.assert_kept(table(keys=keys))

    def test_column_in_two_references(self):
        above = table() + "\n" + table("d", "x y", ["x y"]) + "\n"
        for word in ("ref", "optional"):
            for other in ("ref", "optional"):
                self.assert_wrong(above + table("b", "k x y", ["k"], [f"{word} x -> a", f"{other} x -> a"]), 17)
                self.assert_wrong(above + table("b", "k x y", ["k"], [f"{word} x -> a", f"{other} y x -> d"]), 17)
                self.assert_wrong(above + table("b", "k x y", ["k"], [f"{word} x y -> d", f"{other} y -> a"]), 17)

    def test_column_of_an_optional_reference_in_a_key(self):
        above = table() + "\n" + table("d", "x y", ["x y"]) + "\n"
        self.assert_wrong(above + table("b", refers=["optional x -> a"]), 16)
        self.assert_wrong(above + table("b", keys=["x", "y z"], refers=["optional z -> a"]), 17)
        self.assert_wrong(above + table("b", refers=["optional y x -> d"]), 16)
        self.assert_wrong(above + table("b", refers=["ref y -> a", "optional x -> b"]), 17)
        self.assert_wrong(table("a", refers=["optional x -> a"]), 5)

    def test_number_of_columns_is_that_of_the_main_key(self):
        above = table("a", "x y z", ["x y", "z"]) + "\n"
        self.assert_kept(above + table("b", "k x y", ["k"], ["ref x y -> a"]))
        for word in ("ref", "optional"):
            self.assert_wrong(above + table("b", "k x y", ["k"], [f"{word} x -> a"]), 12)
            self.assert_wrong(table() + "\n" + table("b", "k x y", ["k"], [f"{word} x y -> a"]), 11)
        self.assert_wrong(table("a", keys=["x y"], refers=["optional z -> a"]), 5)

    def test_references_to_the_own_table_and_below(self):
        self.assert_wrong(table("a", refers=["ref y -> a"]), 5)
        self.assert_wrong(table("a", refers=["ref x -> a"]), 5)
        self.assert_kept(table("a", refers=["optional y -> a"]))
        for word in ("ref", "optional"):
            self.assert_wrong(table("a", refers=[f"{word} y -> b"]) + "\n" + table("b"), 5)
            self.assert_wrong(table("a", refers=[f"{word} y -> nothing"]), 5)

    def test_rows_out_of_order(self):
        above = table() + "\n"
        for rows, row in (
                ("end", 0), ("  column x\n  key x\nend", 0), ("table a\n  key x\n  column x\nend", 1),
                ("table a\nend", 1), ("table a\ntable b", 1), ("table a\n  column x\nend", 2),
                ("table a\n  column x\ntable b", 2), ("table a\n  column x\n  key x\ntable b", 3),
                ("table a\n  column x\n  key x\n  column y\nend", 3),
                ("table a\n  column x\n  column y\n  optional y -> a\n  key x\nend", 3),
                ("table a\n  column x\n  column y\n  key x\n  optional y -> a\n  key y\nend", 5),
                ("table a\n  column x\n  column y\n  key x\n  optional y -> a\n  column z\nend", 5)):
            self.assert_wrong(rows, row)
            self.assert_wrong(above + rows.replace("table a", "table c").replace("-> a", "-> c"), row + 6)

    def test_behind_the_end(self):
        for more in ("end", "", " ", "  column x", "  key x", "  ref y -> a", "x", "table", "table ", "table a",
                     "report r"):
            self.assert_wrong(table() + "\n" + more, 6)

    def test_spaces(self):
        right = ["table a", "  column x", "  column y", "  key x y", "end", "table b", "  column x", "  column y",
                 "  column z", "  key z", "  ref x y -> a", "end"]
        self.assert_kept("\n".join(right))
        for at, row in enumerate(right):
            changed = {row + " ", " " + row, row.replace(" ", "  "), row.lstrip() if row[0] == " " else "  " + row,
                       row.replace(" ", "\t"), row.upper(), row + "\r", row[1:], row + ","}
            changed |= {row[:place] + " " + row[place:] for place in range(len(row) + 1)}
            changed |= {row[:place] + row[place + 1:] for place in range(len(row)) if row[place] == " "}
            for wrong in changed - {row}:
                self.assert_wrong("\n".join([*right[:at], wrong, *right[at + 1:]]), at)

    def test_arrow(self):
        for wrong in ("ref y a", "ref y", "ref", "ref ", "ref ->", "ref -> a", "ref  -> a", "ref y ->", "ref y -> ",
                      "ref y > a",
                      "ref y - a", "ref y -> a b", "ref y -> -> a", "ref y->a", "ref y -> a -> a", "ref -> y -> a",
                      "ref y = a", "opt y -> a", "refer y -> a", "reference y -> a"):
            self.assert_wrong(table() + "\n" + table("b", refers=[wrong]), 11)
            self.assert_wrong(table() + "\n" + table("b", refers=[wrong.replace("ref", "optional")]), 11)

    def test_empty_row_anywhere(self):
        rows = SHOP.split("\n")
        for at in range(len(rows) + 1):
            self.assert_wrong("\n".join([*rows[:at], "", *rows[at:]]), at)

    def test_newlines_at_the_end(self):
        self.assert_wrong(SHOP + "\n", 20)
        self.assert_wrong(SHOP + "\n\n", 20)
        self.assert_wrong("\n", 0)
        self.assert_wrong("\n" + SHOP, 0)

    def test_only_newlines_separate_rows(self):
        for sign in ("\r", "\r\n", "\x0b", "\x0c", "\u2028", " ", ";"):
            self.assert_wrong(SHOP.replace("\n", sign), 0)

    def test_text_that_ends_too_early(self):
        self.assert_wrong("", 0)
        rows = SHOP.split("\n")
        for count in range(1, len(rows)):
            text = "\n".join(rows[:count])
            if rows[count - 1] == "end":
                self.assert_kept(text)
            else:
                self.assert_wrong(text, count)

    def test_long_texts(self):
        self.assert_wrong("\n".join(["table a"] + ["  column x"] * 1900), 2)
        self.assert_wrong("table a\n  column x\n  key " + "x " * 9000 + "x\nend", 2)
        self.assert_wrong("a" * 20000, 0)
        self.assert_wrong("\n" * 20000, 0)
        self.assert_wrong(" " * 20000, 0)


class EditedTextsTest(SchemaCase):
    """Texts near a right one: the row is wrong exactly if no schema's text goes on with it."""

    BASE = [
        "table a", "  column x", "  column y", "  column z", "  key x y", "  key y z", "end",
        "table b", "  column x", "  column y", "  column k", "  column z", "  key k", "  optional z -> b",
        "  ref x y -> a",
        "end"]
    POOL = BASE + [
        "", "table c", "  column w", "  key x", "  key z", "  key x z", "  key z y x", "  key w", "  ref z -> b",
        "  ref z -> a",
        "  optional x y -> a", "  optional y x -> a", "  ref y -> b", "  optional k -> b", "  ref x x -> a", " end",
        "end "]

    def test_edited_texts(self):
        count = 0
        for rows in edited(self.BASE, self.POOL):
            text = "\n".join(rows)
            row = wrong_row(Schema.parse, text)
            rows = text.split("\n")
            if row is None:
                self.assertTrue(is_schema_text(text), text)
                self.assertEqual(str(Schema.parse(text)), text)
            else:
                count += 1
                self.assertTrue(row == 0 or can_go_on(rows[:row]), (text, row))
                self.assertFalse(row < len(rows) and can_go_on(rows[:row + 1]), (text, row))
                self.assertFalse(is_schema_text(text), (text, row))
        self.assertGreater(count, 1000)


if __name__ == "__main__":
    unittest.main()
