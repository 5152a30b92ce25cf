"""Answers to the three questions of a report: Does it count once, does it add up, and does it lose none?"""

from countonce.copies import canonical_row, two_matches
from countonce.databases import is_valid_database
from countonce.knowledge import Knowledge
from countonce.matching import all_hold, group_of, is_match, is_row_of, keeps_filters, measured_row
from countonce.paths import is_path, walk
from countonce.reports import alias_tables, measured_columns
from countonce.trees import Search, is_tree


def counts_once(report):
    """Return an answer to the question whether a report counts once."""
    knowledge = once_knowledge(report)
    steps = knowledge.take_all()
    if shows_once(report, knowledge):
        return ("yes", steps)
    database, one, other = two_matches(report, knowledge)
    return ("no", database, one, other)


def is_once_answer(report, value):
    """Tell whether any value is an answer that counts_once may return."""
    if is_yes(value):
        knowledge = once_knowledge(report)
        return knowledge.take_each(value[1]) and shows_once(report, knowledge)
    if not are_two_matches(report, value):
        return False
    one, other = value[2:]
    if measured_row(report, one) != measured_row(report, other):
        return False
    return one != other and group_of(report, one) == group_of(report, other)


def once_knowledge(report):
    """Return what is known, before all steps, of two matches with one pair."""
    return Knowledge(report, [*measured_columns(report), *report.groups])


def shows_once(report, knowledge):
    """Tell whether knowledge shows that a report counts once."""
    if knowledge.classes.is_contradiction():
        return True
    return all([knowledge.knows(alias) for alias, _ in report.aliases[1:]])


def adds_up(report):
    """Return an answer to the question whether a report adds up."""
    knowledge = sum_knowledge(report)
    steps = knowledge.take_all()
    if shows_sum(report, knowledge):
        return ("yes", steps)
    database, one, other = two_matches(report, knowledge)
    return ("no", database, one, other)


def is_sum_answer(report, value):
    """Tell whether any value is an answer that adds_up may return."""
    if is_yes(value):
        knowledge = sum_knowledge(report)
        return knowledge.take_each(value[1]) and shows_sum(report, knowledge)
    if not are_two_matches(report, value):
        return False
    one, other = value[2:]
    if measured_row(report, one) != measured_row(report, other):
        return False
    return group_of(report, one) != group_of(report, other)


def sum_knowledge(report):
    """Return what is known, before all steps, of two matches with one measured row."""
    return Knowledge(report, measured_columns(report))


def shows_sum(report, knowledge):
    """Tell whether knowledge shows that a report adds up."""
    if knowledge.classes.is_contradiction():
        return True
    return all([knowledge.is_known(column) for column in report.groups])


def is_yes(value):
    """Tell whether any value is "yes" with a list."""
    return isinstance(value, tuple) and len(value) == 2 and value[0] == "yes" and isinstance(value[1], list)


def are_two_matches(report, value):
    """Tell whether any value is "no" with a valid database and two matches in it."""
    if not isinstance(value, tuple) or len(value) != 4 or value[0] != "no":
        return False
    _, database, one, other = value
    if not is_valid_database(report.schema, database):
        return False
    return is_match(report, database, one) and is_match(report, database, other)


def loses_none(report):
    """Return an answer to the question whether a report loses none."""
    if is_measured_contradiction(report):
        return ("yes", None)
    growth, row = canonical_row(report)
    search = Search(report, growth.database, row, None)
    if search.match is None:
        return ("no", growth.database, row, search.tree)
    tables = alias_tables(report)
    return ("yes", {alias: growth.place(tables[alias], search.match[alias])[1] for alias in tables})


def is_measured_contradiction(report):
    """Tell whether two filters set one column of the measured alias to different values."""
    measured = report.aliases[0][0]
    for column, value in report.filters:
        if column[0] == measured and any([other == column and more != value for other, more in report.filters]):
            return True
    return False


def is_loss_answer(report, value):
    """Tell whether any value is an answer that loses_none may return."""
    if not isinstance(value, tuple):
        return False
    if len(value) == 2 and value[0] == "yes":
        return is_kept_evidence(report, value[1])
    if len(value) != 4 or value[0] != "no":
        return False
    _, database, row, tree = value
    if not is_valid_database(report.schema, database):
        return False
    if not is_row_of(report.schema.table(report.aliases[0][1]), database, row):
        return False
    return keeps_filters(report, row) and is_tree(report, database, row, None, tree)


def is_kept_evidence(report, value):
    """Tell whether any value is evidence that a report loses none."""
    if is_measured_contradiction(report):
        return value is None
    if not isinstance(value, dict) or len(value) != len(report.aliases):
        return False
    growth, row = canonical_row(report)
    rows = {}
    for alias, name in report.aliases:
        if alias not in value or not is_path(value[alias]):
            return False
        reached = walk(report.schema, growth.database, report.schema.table(report.aliases[0][1]), row, value[alias])
        if reached is None or reached[0].name != name:
            return False
        rows[alias] = reached[1]
    return value[report.aliases[0][0]] == () and all_hold(report, rows)


def canonical_database(report):
    """Return the canonical database of a report's measured table, and its first row, as a tuple."""
    growth, row = canonical_row(report)
    return (growth.database, row)


def row_at(report, database, row, path):
    """Return the row at the end of a path from a row of the measured table, or None."""
    reached = walk(report.schema, database, report.schema.table(report.aliases[0][1]), row, path)
    return None if reached is None else reached[1]
