"""The words of the document once more, plainly and in other ways than in the program, to judge what it returns."""

import itertools


def plain_violations(schema, database):
    """Return the sorted list of all violations, straight from the words of point 7."""
    found = []
    for table in schema.tables:
        rows = database[table.name]
        cells = [dict(zip(table.columns, row)) for row in rows]
        free = {column for columns, _, required in table.refers if not required for column in columns}
        for row, cell in zip(rows, cells):
            wrong = any(cell[column] is None for column in table.columns if column not in free)
            for columns, _, required in table.refers:
                nones = [cell[column] is None for column in columns]
                wrong = wrong or (not required and any(nones) and not all(nones))
            if wrong:
                found.append(("cell", table.name, row))
        for key in table.unique:
            for one, two in itertools.combinations(range(len(rows)), 2):
                if all(cells[one][c] is not None and cells[one][c] == cells[two][c] for c in key):
                    found.append(("key", table.name, rows[one], rows[two], key))
        for number, (columns, target, _) in enumerate(table.refers):
            other = schema.table(target)
            mains = [[dict(zip(other.columns, row))[c] for c in other.unique[0]] for row in database[target]]
            for row, cell in zip(rows, cells):
                wanted = [cell[column] for column in columns]
                if None not in wanted and wanted not in mains:
                    found.append(("reference", table.name, row, number))
    return sorted(found, key=repr)


def is_plain_database(schema, value):
    """Tell whether any value is a valid database."""
    if type(value) is not dict or set(value) != {table.name for table in schema.tables}:
        return False
    for table in schema.tables:
        rows = value[table.name]
        if type(rows) is not list or not all(type(row) is tuple and len(row) == len(table.columns) for row in rows):
            return False
        if not all(c is None or (type(c) is int and 0 <= c <= 10**9) for row in rows for c in row):
            return False
        if any(one == two for one, two in itertools.combinations(rows, 2)):
            return False
    return not plain_violations(schema, value)


# Matches (points 8 and 10)

def cells_of(report, rows):
    """Return a dict from the columns of the aliases that have rows to their cells."""
    tables = dict(report.aliases)
    return {(alias, column): cell for alias, row in rows.items()
            for column, cell in zip(report.schema.table(tables[alias]).columns, row)}


def is_plain_match(report, rows):
    """Tell whether all links and filters hold, where rows is a dict from all aliases to rows."""
    cells = cells_of(report, rows)
    linked = all(cells[one] is not None and cells[one] == cells[two] for one, two in report.links)
    return linked and all(cells[column] == value for column, value in report.filters)


def plain_matches(report, database):
    """Return the list of all matches in the order that is promised."""
    choices = [database[table] for _, table in report.aliases]
    names = [alias for alias, _ in report.aliases]
    found = [dict(zip(names, rows)) for rows in itertools.product(*choices)]
    return [rows for rows in found if is_plain_match(report, rows)]


def plain_group(report, match):
    cells = cells_of(report, match)
    return tuple(cells[column] for column in report.groups)


def plain_pair(report, match):
    return (plain_group(report, match), match[report.aliases[0][0]])


def plain_worth(report, row):
    if report.measure is None:
        return 1
    return dict(zip(report.schema.table(report.aliases[0][1]).columns, row))[report.measure] or 0


def keeps_own_filters(report, row):
    """Tell whether a row of the measured table keeps all filters on columns of the measured alias."""
    cells = cells_of(report, {report.aliases[0][0]: row})
    return all(cells[column] == value for column, value in report.filters if column in cells)


def is_plain_row(schema, name, database, value):
    """Tell whether any value is a row of a table in a database; True equals 1, but it is no cell."""
    return value in database[name] and type(value) is tuple and all(c is None or type(c) is int for c in value)


def is_match_in(report, database, value):
    """Tell whether any value is a match in a database."""
    if type(value) is not dict or set(value) != {alias for alias, _ in report.aliases}:
        return False
    if not all(is_plain_row(report.schema, table, database, value[alias]) for alias, table in report.aliases):
        return False
    return is_plain_match(report, value)


# Classes and steps (points 12 to 14)

def columns_of(report):
    return [(alias, column) for alias, table in report.aliases for column in report.schema.table(table).columns]


def put_together(blocks, one, two):
    """Return a list of sets in which the two that contain one and two have become one set."""
    met = [block for block in blocks if one in block or two in block]
    return [block for block in blocks if block not in met] + [set().union(*met)]


def first_blocks(report):
    """Return the classes before all steps, as a list of sets of columns and values."""
    blocks = [{column} for column in columns_of(report)] + [{value} for value in {v for _, v in report.filters}]
    for one, two in [*report.links, *report.filters]:
        blocks = put_together(blocks, one, two)
    return blocks


def are_one(blocks, one, two):
    return any(one in block and two in block for block in blocks)


def is_key_of(report, alias, key):
    """Tell whether alias is an alias, and key is one of its table's keys, as the schema writes it."""
    tables = dict(report.aliases)
    return type(alias) is str and alias in tables and key in report.schema.table(tables[alias]).unique


def is_same_step(report, blocks, step):
    """Tell whether any value is an allowed step ("same", ...)."""
    if type(step) is not tuple or len(step) != 4 or step[0] != "same":
        return False
    _, one, two, key = step
    if not is_key_of(report, one, key) or not is_key_of(report, two, key) or one == two:
        return False
    tables = dict(report.aliases)
    return tables[one] == tables[two] and all(are_one(blocks, (one, c), (two, c)) for c in key)


def after_same_step(report, blocks, step):
    for column in report.schema.table(dict(report.aliases)[step[1]]).columns:
        blocks = put_together(blocks, (step[1], column), (step[2], column))
    return blocks


def last_blocks(report):
    """Return the classes after all allowed steps ("same", ...)."""
    blocks = first_blocks(report)
    steps = [("same", one, two, key) for (one, table), (two, _) in itertools.permutations(report.aliases, 2)
             for key in report.schema.table(table).unique]
    for _ in range(len(columns_of(report))):
        for step in steps:
            if is_same_step(report, blocks, step):
                blocks = after_same_step(report, blocks, step)
    return blocks


def values_of(block):
    return sorted(member for member in block if type(member) is int)


def has_two_values(blocks):
    return any(len(values_of(block)) > 1 for block in blocks)


def is_plain_empty(report):
    return has_two_values(last_blocks(report))


def known_blocks(report, blocks, aliases, given):
    """Return the known classes: those with a value, a given column or a column of one of some aliases."""
    return [block for block in blocks if any(
        type(member) is int or member in given or member[0] in aliases for member in block)]


def walk_steps(report, steps, given):
    """Return (classes, known classes, known aliases) after any value, or None if it is no list of allowed steps."""
    if type(steps) is not list:
        return None
    blocks, aliases = first_blocks(report), []
    for step in steps:
        known = known_blocks(report, blocks, aliases, given)
        if is_same_step(report, blocks, step):
            blocks = after_same_step(report, blocks, step)
        elif (type(step) is tuple and len(step) == 3 and step[0] == "known" and is_key_of(report, step[1], step[2])
                and all(any((step[1], column) in block for block in known) for column in step[2])):
            aliases.append(step[1])
        else:
            return None
    return blocks, known_blocks(report, blocks, aliases, given), aliases


def measured_columns_of(report):
    return [column for column in columns_of(report) if column[0] == report.aliases[0][0]]


def shows_plain_once(report, steps):
    """Tell whether any value is evidence that a report counts once."""
    told = walk_steps(report, steps, measured_columns_of(report) + list(report.groups))
    return told is not None and (has_two_values(told[0]) or all(a in told[2] for a, _ in report.aliases[1:]))


def shows_plain_sum(report, steps):
    """Tell whether any value is evidence that a report adds up."""
    told = walk_steps(report, steps, measured_columns_of(report))
    return told is not None and (has_two_values(told[0]) or all(
        any(column in block for block in told[1]) for column in report.groups))


def is_plain_yes(value):
    return type(value) is tuple and len(value) == 2 and value[0] == "yes"


def is_plain_no(report, value):
    """Tell whether any value is "no" with a valid database and two more things."""
    return (type(value) is tuple and len(value) == 4 and value[0] == "no"
            and is_plain_database(report.schema, value[1]))


def is_plain_once_answer(report, value):
    if is_plain_yes(value):
        return shows_plain_once(report, value[1])
    return (is_plain_no(report, value) and all(is_match_in(report, value[1], match) for match in value[2:])
            and value[2] != value[3] and plain_pair(report, value[2]) == plain_pair(report, value[3]))


def is_plain_sum_answer(report, value):
    if is_plain_yes(value):
        return shows_plain_sum(report, value[1])
    if not is_plain_no(report, value) or not all(is_match_in(report, value[1], match) for match in value[2:]):
        return False
    (group, row), (other, same) = [plain_pair(report, match) for match in value[2:]]
    return row == same and group != other


# Canonical databases, paths and trees (points 16 to 18, 20 and 21)

class Grown:
    """The rows of a canonical database, made one after the other, with places from which they were reached.

    A row is made of a dict from columns to cells; new values are strings, so that they cannot be mixed up.
    """

    def __init__(self, schema):
        self.schema = schema
        self.rows = {table.name: [] for table in schema.tables}
        self.made = 0

    def new(self):
        self.made += 1
        return f"new {self.made}"

    def main(self, name, row):
        return [row[column] for column in self.schema.table(name).unique[0]]

    def find(self, name, cells):
        return next((row for row in self.rows[name] if self.main(name, row) == cells), None)

    def add(self, name, row):
        if self.find(name, self.main(name, row)) is None:
            self.rows[name].append(row)

    def grow(self):
        """Add the rows to which the rows so far refer, and those to which these refer."""
        todo = [(name, row) for name in self.rows for row in self.rows[name]]
        while todo:
            name, row = todo.pop(0)
            for columns, target, _ in self.schema.table(name).refers:
                cells = [row[column] for column in columns]
                if cells[0] is not None and self.find(target, cells) is None:
                    table = self.schema.table(target)
                    free = {c for columns, _, required in table.refers if not required for c in columns}
                    new = {c: None if c in free else self.new() for c in table.columns}
                    new.update(zip(table.unique[0], cells))
                    self.add(target, new)
                    todo.append((target, new))

    def at(self, name, row, path):
        """Return the table name and the row at the end of a path, or None."""
        for number in path:
            refers = self.schema.table(name).refers
            if number >= len(refers) or row[refers[number][0][0]] is None:
                return None
            columns, name, _ = refers[number]
            row = self.find(name, [row[column] for column in columns])
        return name, row

    def database(self):
        return {name: [tuple(row[c] for c in self.schema.table(name).columns) for row in self.rows[name]]
                for name in self.rows}


def is_plain_path(value):
    return type(value) is tuple and all(type(number) is int and number >= 0 for number in value)


def tuples(report, rows):
    """Return a dict from aliases to tuples, made of one to dicts from columns to cells."""
    return {alias: tuple(rows[alias][c] for c in report.schema.table(table).columns) for alias, table in report.aliases}


def has_two_own_values(report):
    """Tell whether two filters set one column of the measured alias to different values."""
    own = {(column, value) for column, value in report.filters if column[0] == report.aliases[0][0]}
    return len({column for column, _ in own}) < len(own)


def plain_canonical(report):
    """Return the canonical database of the measured table, as a Grown, and its first row."""
    measured, name = report.aliases[0]
    table = report.schema.table(name)
    grown = Grown(report.schema)
    values = {column: value for (alias, column), value in report.filters if alias == measured}
    row = {column: values.get(column, grown.new()) for column in table.columns}
    for columns, _, required in table.refers:
        if not required and not any(column in values for column in columns):
            row.update({column: None for column in columns})
    grown.add(name, row)
    grown.grow()
    return grown, row


def shows_plain_kept(report, value):
    """Tell whether any value is evidence that a report loses none."""
    if has_two_own_values(report):
        return value is None
    if type(value) is not dict or set(value) != {alias for alias, _ in report.aliases}:
        return False
    if not all(is_plain_path(path) for path in value.values()) or value[report.aliases[0][0]] != ():
        return False
    grown, row = plain_canonical(report)
    ends = {alias: grown.at(report.aliases[0][1], row, value[alias]) for alias, _ in report.aliases}
    if any(ends[alias] is None or ends[alias][0] != table for alias, table in report.aliases):
        return False
    return is_plain_match(report, tuples(report, {alias: ends[alias][1] for alias in ends}))


def is_plain_tree(report, database, rows, group, item):
    """Tell whether any value is a tree for the case that some aliases have rows; group may be None."""
    if type(item) is not tuple or len(item) != 2:
        return False
    cells = cells_of(report, rows)
    word, what = item
    if type(what) is int:
        known = {"link": report.links, "filter": report.filters, "group": report.groups if group is not None else ()}
        if type(word) is not str or word not in known or not 0 <= what < len(known[word]):
            return False
        if word == "group":
            column = report.groups[what]
            return column in cells and cells[column] != group[what]
        one, two = known[word][what]
        if one not in cells or (word == "link" and two not in cells):
            return False
        return cells[one] is None or cells[one] != (cells[two] if word == "link" else two)
    tables = dict(report.aliases)
    if type(word) is not str or word not in tables or word in rows or type(what) is not list:
        return False
    choices = database[tables[word]]
    return len(what) == len(choices) and all(
        is_plain_tree(report, database, {**rows, word: row}, group, branch) for row, branch in zip(choices, what))


def is_plain_loss_answer(report, value):
    if is_plain_yes(value):
        return shows_plain_kept(report, value[1])
    if not is_plain_no(report, value):
        return False
    measured, name = report.aliases[0]
    _, database, row, tree = value
    if not is_plain_row(report.schema, name, database, row) or not keeps_own_filters(report, row):
        return False
    return is_plain_tree(report, database, {measured: row}, None, tree)


def plain_canonical_match(report):
    """Return a Grown that begins with a match of a report which is not empty, and the rows of this match."""
    grown = Grown(report.schema)
    blocks = last_blocks(report)
    cells = [values_of(block)[0] if values_of(block) else grown.new() for block in blocks]
    tested = {column for link in report.links for column in link} | {column for column, _ in report.filters}
    rows = {}
    for alias, name in report.aliases:
        row = {column: cells[number] for column in report.schema.table(name).columns
               for number, block in enumerate(blocks) if (alias, column) in block}
        for columns, _, required in report.schema.table(name).refers:
            asked = [block for block in blocks if block & tested and block & {(alias, column) for column in columns}]
            if not required and not asked:
                row.update({column: None for column in columns})
        rows[alias] = row
    for alias, name in report.aliases:
        grown.add(name, rows[alias])
    grown.grow()
    return grown, rows


def has_form_of_lead(report, value):
    """Tell whether any value is a tuple (start, path) as point 20 asks, for the report without an alias."""
    if type(value) is not tuple or len(value) != 2 or not is_plain_path(value[1]):
        return False
    start, path = value
    tables = dict(report.aliases)
    if type(start) is not str or start not in tables:
        return False
    table = report.schema.table(tables[start])
    tested = [column for link in report.links for column in link] + [column for column, _ in report.filters]
    for at, number in enumerate(path):
        if number >= len(table.refers):
            return False
        columns, name, required = table.refers[number]
        if not required and (at > 0 or not any((start, column) in tested for column in columns)):
            return False
        table = report.schema.table(name)
    return True


def shows_plain_drop(rest, report, value):
    """Tell whether any value is evidence that all pairs of the report without an alias are pairs of the report."""
    if is_plain_empty(rest):
        return value is None
    if type(value) is not dict or set(value) != {alias for alias, _ in report.aliases}:
        return False
    if not all(has_form_of_lead(rest, lead) for lead in value.values()):
        return False
    grown, rows = plain_canonical_match(rest)
    ends = {alias: grown.at(dict(rest.aliases)[start], rows[start], path) for alias, (start, path) in value.items()}
    if any(ends[alias][0] != table for alias, table in report.aliases):
        return False
    match = tuples(report, {alias: ends[alias][1] for alias in ends})
    return is_plain_match(report, match) and plain_pair(report, match) == plain_pair(rest, tuples(rest, rows))


def is_plain_drop_answer(rest, report, value):
    if is_plain_yes(value):
        return shows_plain_drop(rest, report, value[1])
    if not is_plain_no(report, value) or not is_match_in(rest, value[1], value[2]):
        return False
    group, row = plain_pair(rest, value[2])
    return is_plain_tree(report, value[1], {report.aliases[0][0]: row}, group, value[3])
