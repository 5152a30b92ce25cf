"""The words of points 24 to 27 once more, plainly and in other ways than in the program."""

import itertools

from tests.plain import (cells_of, columns_of, has_two_values, is_match_in, is_plain_database, is_plain_no, is_plain_yes,
                         known_blocks, last_blocks, walk_steps)


def plain_determined(report, columns, blocks=None):
    """Return the list of all columns that a list of columns determines; blocks are the last classes, if at hand."""
    blocks = last_blocks(report) if blocks is None else blocks
    if has_two_values(blocks):
        return columns_of(report)
    aliases = []
    for _ in report.aliases:
        known = set().union(*known_blocks(report, blocks, aliases, columns))
        aliases = [alias for alias, table in report.aliases if any(
            all((alias, column) in known for column in key) for key in report.schema.table(table).unique)]
    known = set().union(*known_blocks(report, blocks, aliases, columns))
    return [column for column in columns_of(report) if column in known]


def is_plain_determined_answer(report, columns, column, value):
    if is_plain_yes(value):
        told = walk_steps(report, value[1], columns)
        return told is not None and (has_two_values(told[0]) or any(column in block for block in told[1]))
    if not is_plain_no(report, value) or not all(is_match_in(report, value[1], match) for match in value[2:]):
        return False
    one, other = [cells_of(report, match) for match in value[2:]]
    return all(one[c] == other[c] for c in columns) and one[column] != other[column]


def plain_open(report):
    """Return the open columns."""
    blocks, always = last_blocks(report), plain_determined(report, [])
    firsts = [next(column for column in columns_of(report) if column in block)
              for block in blocks if any(column in block for column in columns_of(report))]
    return [column for column in columns_of(report) if column in firsts and column not in always]


class Lists:
    """All lists of open columns and what each one determines."""

    def __init__(self, report):
        self.open = plain_open(report)
        self.columns = columns_of(report)
        blocks = last_blocks(report)
        self.told = {chosen: set(plain_determined(report, list(chosen), blocks))
                     for many in range(len(self.open) + 1) for chosen in itertools.combinations(self.open, many)}

    def tells(self, chosen, column):
        return column in self.told[chosen] if column is not None else len(self.told[chosen]) == len(self.columns)

    def ordered(self, found):
        return sorted(found, key=lambda chosen: [self.columns.index(column) for column in chosen])

    def fewer(self, chosen):
        return [tuple(c for c in chosen if c != column) for column in chosen]

    def more(self, chosen):
        return [tuple(c for c in self.open if c in chosen or c == column) for column in self.open
                if column not in chosen]

    def least(self, column=None):
        return self.ordered(chosen for chosen in self.told if self.tells(chosen, column)
                            and not any(self.tells(other, column) for other in self.fewer(chosen)))

    def greatest(self, column=None):
        return self.ordered(chosen for chosen in self.told if not self.tells(chosen, column)
                            and all(self.tells(other, column) for other in self.more(chosen)))


def is_plain_example(report, value):
    """Tell whether any value is an example, by going through all lists of columns (there should be few columns)."""
    if type(value) is not tuple or len(value) != 2 or not is_plain_database(report.schema, value[0]):
        return False
    if type(value[1]) is not list or not all(is_match_in(report, value[0], match) for match in value[1]):
        return False
    blocks, columns = last_blocks(report), columns_of(report)
    # Of each two matches, all that matters is on which columns they agree.
    cells = [cells_of(report, match) for match in value[1]]
    agreed = {frozenset(c for c in columns if one[c] == other[c]) for one, other in itertools.combinations(cells, 2)}
    for many in range(len(columns) + 1):
        for chosen in itertools.combinations(columns, many):
            kept = set(columns).intersection(*[found for found in agreed if found.issuperset(chosen)])
            if kept != set(plain_determined(report, chosen, blocks)):
                return False
    return True
