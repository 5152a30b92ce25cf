"""Texts that several tests use, and ways to make wrong texts of right ones."""

from countonce.errors import InvalidText
from countonce.reports import Report
from countonce.schemas import Schema

# The schema of point 6 of the document. There, the table clients is called
# customers, which is no name: it has nine letters, and point 4 allows eight.
SHOP = """table clients
  column id
  column name
  key id
end
table orders
  column id
  column customer
  column note
  key id
  ref customer -> clients
  optional note -> orders
end
table items
  column order
  column line
  column price
  key order line
  ref order -> orders
end"""

# The schema of the examples of the interface.
SMALL = """table orders
  column id
  column customer
  key id
end
table items
  column order
  column line
  column price
  key order line
  ref order -> orders
end"""

# A table with two optional references to itself.
TREE = """table a
  column x
  column y
  column z
  key x
  optional y -> a
  optional z -> a
end"""

# Two keys, a required and an optional reference of several columns, and optional ones to the own table.
WIDE = """table a
  column p
  column q
  column r
  key q p
  key r
end
table b
  column k
  column x
  column y
  column v
  column w
  key k
  ref y x -> a
  optional v w -> a
end
table c
  column k
  column up
  column b
  key k
  optional up -> c
  optional b -> b
end"""

# The report of point 9 of the document. It is a report of both schemas.
SALES = """report sales
  from items i
  join orders o
  link i.order = o.id
  where o.customer = 7
  by o.customer
  sum price
end"""


def nested(inner, wrap, depth):
    """Return a value inside of others, at a depth."""
    for _ in range(depth):
        inner = wrap(inner)
    return inner


# Values of every kind that a caller may pass where any value is accepted.
ANY_VALUES = [
    None, True, False, 0, 1, -1, 10**9, 10**9 + 1, 10**5000, "", "orders", (), (1, 5), [], [(1, 5)], {}, {1: 2},
    {None: []}, {(): []}, {"orders": None}, {"orders": []}, [["orders", []]], (("orders", []),),
    nested([], lambda value: [value], 50), nested((), lambda value: (value,), 50),
    nested({}, lambda value: {"orders": value, "items": value}, 5), nested({}, lambda value: {"orders": value}, 50),
]


def exact(value):
    """Return a value with the kinds of all its parts, so that True and 1 differ; the order in dicts means nothing."""
    if type(value) is dict:
        return (dict, [(exact(key), exact(value[key])) for key in sorted(value, key=repr)])
    if type(value) in (list, tuple):
        return (type(value), [exact(part) for part in value])
    return (type(value), value)


def wrong_row(parse, text):
    """Return the row of the InvalidText that parse raises for a text, or None if it raises nothing."""
    try:
        parse(text)
    except InvalidText as error:
        return error.row
    return None


def edited(rows, pool):
    """Yield many lists of rows that differ from one in a row or two."""
    for at in range(len(rows) + 1):
        yield rows[:at]
        for row in pool:
            yield rows[:at] + [row] + rows[at:]
            yield rows[:at] + [row] + rows[at + 1:]
    for at, row in enumerate(rows):
        yield rows[:at] + rows[at + 1:]
        yield rows[:at] + [row, row] + rows[at + 1:]
        yield rows[:at] + [rows[at + 1], row] + rows[at + 2:] if at + 1 < len(rows) else rows[::-1]
        for place in range(len(row) + 1):
            for sign in (" ", "", "x", "A", "0", "_", ".", "-", ">"):
                yield rows[:at] + [row[:place] + sign + row[place + 1:]] + rows[at + 1:]
            yield rows[:at] + [row[:place] + " " + row[place:]] + rows[at + 1:]
            yield rows[:at] + [row[:place], row[place:]] + rows[at + 1:]


def report_of(schema, rows):
    """Return the report of a schema's text and of its own rows, written one behind the other with semicolons."""
    inner = "\n".join(f"  {row}" for row in rows.split("; "))
    return Report.parse(Schema.parse(schema), f"report r\n{inner}\nend")
