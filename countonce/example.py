"""Examples: databases with matches that agree on just what a report determines."""

from countonce.copies import agreeing_matches
from countonce.databases import is_valid_database
from countonce.dependencies import Dependencies
from countonce.lists import Choices
from countonce.matching import cell_at, column_places, is_match
from countonce.reports import all_columns


def one_example(report):
    """Return an example of a report as a tuple (database, matches); raise TooManyColumns(count)."""
    dependencies = Dependencies(report)
    choices = Choices(dependencies)
    if dependencies.classes.is_contradiction():
        return ({table.name: [] for table in report.schema.tables}, [])
    kept = [dependencies.columns_in(closed) for closed in needed_agreements(choices)]
    return agreeing_matches(report, dependencies.classes, kept)


def is_example(report, value):
    """Tell whether any value is an example of a report; raise TooManyColumns(count)."""
    dependencies = Dependencies(report)
    choices = Choices(dependencies)
    if not isinstance(value, tuple) or len(value) != 2:
        return False
    database, found = value
    if not is_valid_database(report.schema, database) or not isinstance(found, list):
        return False
    if not all([is_match(report, database, match) for match in found]):
        return False
    # In a valid database, any two matches agree on all that is determined: no list has to be asked for that.
    agreements = all_agreements(report, dependencies, found)
    return all([closed in agreements for closed in needed_agreements(choices)])


def needed_agreements(choices):
    """Return the list of the classes, gathered, on which just two matches of each example agree.

    Where a list does not determine a column, a greatest list for the column does not either, and it determines all of
    this list. If two matches agree on what the greatest list determines, and on nothing else, they show it.
    """
    found = {}
    for column in choices.columns:
        for chosen in choices.greatest(column):
            found[choices.closures[chosen]] = True
    return list(found)


def all_agreements(report, dependencies, found):
    """Return a dict that has, gathered, the classes on which two different ones of some matches agree as keys."""
    places = column_places(report)
    columns = all_columns(report)
    different = {tuple([cell_at(places, match, column) for column in columns]): True for match in found}
    bits = [dependencies.gathered([column]) for column in columns]
    agreements = {}
    met = []
    for cells in different:
        for other in met:
            agreement = 0
            for bit, one, two in zip(bits, cells, other):
                if one == two:
                    agreement = agreement | bit
            agreements[agreement] = True
        met.append(cells)
    return agreements
