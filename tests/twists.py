"""Reports that say the same as another one in other words, or nearly the same."""

import random

from countonce.reports import Report
from tests.many import some_report, some_schema

NAMES = ["m", "n", "o", "p", "q", "link", "group", "filter", "where", "x"]


class Parts:
    """The parts of a report, to be changed one after the other."""

    def __init__(self, report):
        self.schema = report.schema
        self.aliases, self.links = list(report.aliases), list(report.links)
        self.filters, self.groups = list(report.filters), list(report.groups)

    def columns(self, names=None):
        return [(alias, column) for alias, table in self.aliases if names is None or alias in names
                for column in self.schema.table(table).columns]

    def free(self):
        """Return the columns that are in no optional reference."""
        bound = {(alias, column) for alias, table in self.aliases for columns, _, required in
                 self.schema.table(table).refers if not required for column in columns}
        return [column for column in self.columns() if column not in bound]

    def new_name(self):
        return next(name for name in NAMES if name not in dict(self.aliases))

    def report(self, name="twisted"):
        """Return the report, or None if it is too long."""
        many = [len(self.aliases), len(self.links), len(self.filters), len(self.groups)]
        if any(found > most for found, most in zip(many, (4, 20, 5, 3))):
            return None
        made = Report(self.schema, name, self.aliases, self.links, self.filters, self.groups, None)
        return Report.parse(self.schema, str(made))


def rename(rng, parts):
    """Give all aliases other names, and put all but the first one into another order."""
    names = dict(zip([alias for alias, _ in parts.aliases], rng.sample(NAMES, len(parts.aliases))))
    parts.aliases = [(names[alias], table) for alias, table in parts.aliases]
    rest = parts.aliases[1:]
    rng.shuffle(rest)
    parts.aliases[1:] = rest
    parts.links = [tuple((names[alias], column) for alias, column in link) for link in parts.links]
    parts.filters = [((names[alias], column), value) for (alias, column), value in parts.filters]
    parts.groups = [(names[alias], column) for alias, column in parts.groups]


def turn(rng, parts):
    """Turn some links, and put links and filters into another order."""
    parts.links = [link[::rng.choice([1, -1])] for link in parts.links]
    rng.shuffle(parts.links)
    rng.shuffle(parts.filters)


def join_reference(rng, parts):
    """Join an alias to which a reference leads, by all of the reference or by a part of it."""
    choices = [(alias, refer) for alias, table in parts.aliases for refer in parts.schema.table(table).refers]
    if choices:
        alias, (columns, target, _) = rng.choice(choices)
        name = parts.new_name()
        parts.aliases.insert(rng.randint(1, len(parts.aliases)), (name, target))
        links = [((alias, c), (name, d)) for c, d in zip(columns, parts.schema.table(target).unique[0])]
        parts.links += links[1:] if rng.random() < 0.1 else links


def join_same(rng, parts):
    """Join one more alias of a table, by all of a key or by a part of it."""
    alias, table = rng.choice(parts.aliases)
    name = parts.new_name()
    parts.aliases.append((name, table))
    links = [((name, c), (alias, c)) for c in rng.choice(parts.schema.table(table).unique)]
    parts.links += links[1:] if rng.random() < 0.3 else links


def join_any(rng, parts):
    """Join any alias, with or without a link."""
    table = rng.choice(parts.schema.tables).name
    name = parts.new_name()
    parts.aliases.append((name, table))
    if rng.random() < 0.5:
        parts.links.append((rng.choice(parts.columns([name])), rng.choice(parts.columns())))


def drop_alias(rng, parts):
    """Drop an alias and all that is said of it."""
    spare = [alias for alias, _ in parts.aliases[1:] if alias not in dict(parts.groups)]
    if spare:
        gone = rng.choice(spare)
        parts.aliases = [(alias, table) for alias, table in parts.aliases if alias != gone]
        parts.links = [link for link in parts.links if gone not in dict(link)]
        parts.filters = [(column, value) for column, value in parts.filters if column[0] != gone]


def drop_condition(rng, parts):
    """Drop a link or a filter."""
    chosen = rng.choice([parts.links, parts.filters])
    if chosen:
        del chosen[rng.randrange(len(chosen))]


def add_link(rng, parts):
    """Add a link: one that follows from two others, one of a column with itself, or any."""
    chance = rng.random()
    if chance < 0.5 and parts.links:
        one, two = rng.choice(parts.links), rng.choice(parts.links)
        parts.links.append((one[0], two[1] if one[1] == two[0] else one[0]))
    elif chance < 0.8:
        parts.links.append((rng.choice(parts.columns()),) * 2)
    else:
        parts.links.append((rng.choice(parts.columns()), rng.choice(parts.columns())))


def add_filter(rng, parts):
    """Add a filter, perhaps for a column that is linked to one with a filter."""
    if parts.filters and parts.links and rng.random() < 0.6:
        value = rng.choice(parts.filters)[1]
        parts.filters.append((rng.choice(rng.choice(parts.links)), value))
    else:
        parts.filters.append((rng.choice(parts.columns()), rng.choice([0, 0, 1])))


def change_group(rng, parts):
    """Put a linked column, or any, into the place of a group column, or put them into another order."""
    if parts.groups and rng.random() < 0.8:
        at = rng.randrange(len(parts.groups))
        linked = [two for one, two in parts.links if one == parts.groups[at]]
        linked += [one for one, two in parts.links if two == parts.groups[at]]
        column = rng.choice(linked or parts.free())
        if column in parts.free() and column not in parts.groups:
            parts.groups[at] = column
    else:
        rng.shuffle(parts.groups)


SAME = [rename, turn, turn, join_reference, join_same]
ANY = [*SAME, join_any, drop_alias, drop_condition, drop_condition, add_link, add_filter, change_group]


def twisted(rng, report, most=4):
    """Return a report that can be compared with another one, and is often much like it."""
    for _ in range(20):
        parts = Parts(report)
        for _ in range(rng.choice([1, 1, 2, 2, 3, 4])):
            rng.choice(rng.choice([SAME, ANY]))(rng, parts)
        made = parts.report()
        if made is not None and len(made.aliases) <= most:
            return made
    return report


def some_pairs(seed, count, tables=3, aliases=3):
    """Yield so many tuples (random numbers, report, other report) of reports that can be compared."""
    for number in range(count):
        rng = random.Random(f"{seed} {number}")
        schema = some_schema(rng, tables)
        most = aliases if len(schema.tables) <= 3 else min(aliases, 3)
        report = some_report(rng, schema, rng.randint(1, most))
        yield rng, report, twisted(rng, twisted(rng, report, most) if rng.random() < 0.5 else report, most)
