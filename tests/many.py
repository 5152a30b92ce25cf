"""Many schemas, reports and valid databases, the same ones each time."""

import random

from countonce.reports import Report
from countonce.schemas import Schema


def some_keys(rng, columns):
    """Return one to three keys, none of which contains another one."""
    keys = []
    for _ in range(rng.choice([1, 1, 2, 3])):
        key = rng.sample(columns, min(len(columns), rng.choice([1, 1, 2, 2, 3])))
        if not any(set(key) <= set(other) or set(other) <= set(key) for other in keys):
            keys.append(key)
    return keys


def some_references(rng, name, columns, keys, mains):
    """Return rows of the text form for up to two references; mains has the main keys of the tables above."""
    rows, free = [], list(columns)
    for _ in range(rng.choice([0, 1, 1, 2, 2])):
        optional = rng.random() < 0.5
        target = rng.choice([*mains, name] if optional else [*mains, *mains] or [None])
        pool = [c for c in free if not optional or not any(c in key for key in keys)]
        size = len({**mains, name: keys[0]}[target]) if target else 9
        if size <= len(pool):
            chosen = rng.sample(pool, size)
            free = [c for c in free if c not in chosen]
            rows.append(f"  {'optional' if optional else 'ref'} {' '.join(chosen)} -> {target}")
    return rows


def some_schema(rng, most=5):
    """Return a schema of up to so many tables."""
    rows, mains = [], {}
    for name in "abcde"[:rng.randint(1, most)]:
        columns = list("pqrst"[:rng.randint(1, 5)])
        keys = some_keys(rng, rng.sample(columns, rng.randint(1, len(columns))))
        rows += [f"table {name}"] + [f"  column {column}" for column in columns]
        rows += [f"  key {' '.join(key)}" for key in keys] + some_references(rng, name, columns, keys, mains) + ["end"]
        mains[name] = keys[0]
    return Schema.parse("\n".join(rows))


def some_links(rng, schema, aliases):
    """Return pairs of columns: along references, of the same key, and any others."""
    links = []
    columns = [(alias, column) for alias, table in aliases for column in schema.table(table).columns]
    for _ in range(rng.choice([0, 1, 1, 2, 2, 3, 4, 6])):
        (one, name), (two, other) = rng.choice(aliases), rng.choice(aliases)
        refers = [refer for refer in schema.table(name).refers if refer[1] == other]
        chance = rng.random()
        if chance < 0.6 and refers:
            target = schema.table(other)
            links += [((one, c), (two, d)) for c, d in zip(rng.choice(refers)[0], target.unique[0])]
        elif chance < 0.8 and name == other:
            links += [((two, c), (one, c)) for c in rng.choice(schema.table(name).unique)]
        elif chance < 0.9:
            links.append((rng.choice(columns), rng.choice(columns)))
    return links[:20]


def some_report(rng, schema, most=4):
    """Return a report of up to so many aliases."""
    tables = [table.name for table in schema.tables]
    aliases = [(alias, rng.choice(tables)) for alias in ["m", "link", "group", "filter"][:rng.randint(1, most)]]
    bound, free = [], []
    for alias, table in aliases:
        table = schema.table(table)
        optional = [column for columns, _, required in table.refers if not required for column in columns]
        for column in table.columns:
            (bound if column in optional else free).append((alias, column))
    rows = ["report r"] + [f"  {'join' if at else 'from'} {table} {alias}" for at, (alias, table) in enumerate(aliases)]
    rows += [f"  link {a}.{b} = {c}.{d}" for (a, b), (c, d) in some_links(rng, schema, aliases)]
    for _ in range(rng.choice([0, 0, 0, 1, 1, 2, 3, 5])):
        alias, column = rng.choice(bound + free)
        rows.append(f"  where {alias}.{column} = {rng.choice([0, 0, 0, 1])}")
    groups = rng.sample(free, min(len(free), rng.choice([0, 0, 1, 1, 2, 3])))
    rows += [f"  by {alias}.{column}" for alias, column in groups]
    rows.append(rng.choice(["  rows", *[f"  sum {column}" for alias, column in free if alias == "m"]]))
    return Report.parse(schema, "\n".join([*rows, "end"]))


def some_database(rng, schema, rows=6, values=3):
    """Return a valid database with up to so many rows in each table."""
    database = {}
    for table in schema.tables:
        database[table.name], seen = [], set()
        for _ in range(rng.randint(0, rows)):
            row = {column: rng.randrange(values) for column in table.columns}
            for columns, name, required in table.refers:
                target = schema.table(name)
                choices = [[dict(zip(target.columns, other))[c] for c in target.unique[0]] for other in database[name]]
                if name == table.name:
                    choices.append([row[c] for c in target.unique[0]])
                if not required:
                    choices.append([None] * len(columns))
                if not choices:
                    break
                row.update(zip(columns, rng.choice(choices)))
            else:
                found = {(key, *[row[c] for c in key]) for key in table.unique}
                # A row that refers to itself must do so with the key that it has in the end.
                if not found & seen and refers_to_rows(table, row, database):
                    seen |= found
                    database[table.name].append(tuple(row[c] for c in table.columns))
    return database


def refers_to_rows(table, row, database):
    """Tell whether the references of a row to its own table lead to rows, itself counted."""
    mains = [[dict(zip(table.columns, other))[c] for c in table.unique[0]] for other in database[table.name]]
    mains.append([row[c] for c in table.unique[0]])
    wanted = [[row[c] for c in columns] for columns, name, _ in table.refers if name == table.name]
    return all(None in cells or cells in mains for cells in wanted)


def some_cases(seed, count, tables=5, aliases=4):
    """Yield so many tuples (random numbers, report)."""
    for number in range(count):
        rng = random.Random(f"{seed} {number}")
        yield rng, some_report(rng, some_schema(rng, tables), aliases)


def changed(rng, value, pool):
    """Return a value that differs somewhere from one that is built of tuples, lists and dicts."""
    chance = rng.random()
    if type(value) in (tuple, list) and value and chance < 0.85:
        parts = list(value)
        at = rng.randrange(len(parts))
        if chance < 0.65:
            parts[at] = changed(rng, parts[at], pool)
        elif chance < 0.7:
            del parts[at]
        elif chance < 0.75:
            parts.insert(at, rng.choice(parts))
        elif chance < 0.8:
            other = rng.randrange(len(parts))
            parts[at], parts[other] = parts[other], parts[at]
        else:
            parts.insert(at, changed(rng, rng.choice(pool), pool))
        return type(value)(parts)
    if type(value) is dict and value and chance < 0.9:
        key = rng.choice(list(value))
        if chance < 0.75:
            return {**value, key: changed(rng, value[key], pool)}
        if chance < 0.8:
            return {**value, key: rng.choice(list(value.values()))}
        if chance < 0.85:
            return {name: value[name] for name in value if name != key}
        return {**value, rng.choice(["more", 0, None]): value[key]}
    if type(value) is int and chance < 0.7:
        return rng.choice([value + 1, value - 1, bool(value), 0, 1, "1", -value, 10**9 + 1, 10**5000])
    if type(value) is tuple and chance < 0.93:
        return list(value)
    if type(value) is list and chance < 0.93:
        return tuple(value)
    return rng.choice(pool)
