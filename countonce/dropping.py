"""Dropping aliases without which a report has the same pairs."""

from countonce.classes import Classes
from countonce.errors import NeededAlias, UnknownAlias
from countonce.inclusion import inclusion, is_inclusion
from countonce.reports import Report, alias_tables, all_columns, tested_columns
from countonce.schemas import optional_columns


def without(report, alias):
    """Return the report without an alias; raise UnknownAlias(alias) or NeededAlias(alias)."""
    if alias not in list(alias_tables(report)):
        raise UnknownAlias(alias)
    if not is_spare(report, alias):
        raise NeededAlias(alias)
    links = []
    filters = []
    for columns, values in remaining_classes(report, alias):
        links.extend(links_between(report, columns, values))
        filters.extend([(columns[0], value) for value in values])
    aliases = [(name, table) for name, table in report.aliases if name != alias]
    return Report(report.schema, report.name, aliases, links, filters, report.groups, report.measure)


def is_spare(report, alias):
    """Tell whether an alias is not the measured one, and no group column belongs to it."""
    return alias != report.aliases[0][0] and alias not in [name for name, _ in report.groups]


def remaining_classes(report, alias):
    """Return what is left, without an alias, of the classes that contain a column of a link or a filter.

    A class is a tuple (columns, values), and the classes come in the order of their first columns.
    """
    classes = Classes(report)
    classes.take_same_steps()
    tested = [classes.class_of(column) for column in tested_columns(report)]
    found = {}
    for column in all_columns(report):
        number = classes.class_of(column)
        if column[0] != alias and number in tested:
            found.setdefault(number, []).append(column)
    values = classes.class_values()
    return [(found[number], values.get(number, [])) for number in found]


def links_between(report, columns, values):
    """Return the links that put columns into one class and let none of them be None."""
    if len(columns) > 1:
        return list(zip(columns, columns[1:]))
    alias, name = columns[0]
    # A filter lets its column not be None; without one, an optional column needs a link of its own.
    if not values and name in optional_columns(alias_tables(report)[alias]):
        return [(columns[0], columns[0])]
    return []


def can_drop(report, alias):
    """Return an answer to the question whether an alias can be dropped."""
    return inclusion(without(report, alias), report)


def is_drop_answer(report, alias, value):
    """Tell whether any value is an answer that can_drop may return."""
    return is_inclusion(without(report, alias), report, value)


def smaller(report):
    """Return the report that is left when aliases have been dropped until none can be."""
    left = report
    alias = first_to_drop(left)
    while alias is not None:
        left = without(left, alias)
        alias = first_to_drop(left)
    return left


def first_to_drop(report):
    """Return the first alias that can be dropped, or None."""
    for alias, _ in report.aliases:
        if is_spare(report, alias) and can_drop(report, alias)[0] == "yes":
            return alias
    return None
