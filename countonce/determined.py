"""Determined columns: which columns of two matches are equal whenever those of a list are."""

from countonce.answers import are_two_matches, is_yes
from countonce.copies import two_matches
from countonce.errors import UnknownColumn
from countonce.knowledge import Knowledge
from countonce.matching import cell_at, column_places
from countonce.reports import all_columns


def determined(report, columns):
    """Return the list of all columns that a list of columns determines; raise UnknownColumn(column)."""
    need_columns(report, columns)
    knowledge = Knowledge(report, columns)
    knowledge.take_all()
    return [column for column in all_columns(report) if shows_column(knowledge, column)]


def determines(report, columns, column):
    """Return an answer to the question whether a list of columns determines a column."""
    need_columns(report, [*columns, column])
    knowledge = Knowledge(report, columns)
    steps = knowledge.take_all()
    if shows_column(knowledge, column):
        return ("yes", steps)
    database, one, other = two_matches(report, knowledge)
    return ("no", database, one, other)


def is_determined_answer(report, columns, column, value):
    """Tell whether any value is an answer that determines may return; raise UnknownColumn(column)."""
    need_columns(report, [*columns, column])
    if is_yes(value):
        knowledge = Knowledge(report, columns)
        return knowledge.take_each(value[1]) and shows_column(knowledge, column)
    if not are_two_matches(report, value):
        return False
    one, other = value[2:]
    return agree(report, columns, one, other) and not agree(report, [column], one, other)


def need_columns(report, values):
    """Raise UnknownColumn for the first one of any values that is no column of a report."""
    columns = all_columns(report)
    for value in values:
        if value not in columns:
            raise UnknownColumn(value)


def shows_column(knowledge, column):
    """Tell whether knowledge of two matches shows that they agree on a column."""
    return knowledge.classes.is_contradiction() or knowledge.is_known(column)


def agree(report, columns, one, other):
    """Tell whether two matches agree on all columns of a list."""
    places = column_places(report)
    return all([cell_at(places, one, column) == cell_at(places, other, column) for column in columns])
