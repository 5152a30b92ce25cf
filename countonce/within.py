"""Reports within reports: is each pair of one report a pair of another one, in every valid database?"""

from countonce.errors import OtherReports
from countonce.inclusion import inclusion, is_inclusion


def within(report, other):
    """Return an answer to the question whether a report is within another one; raise OtherReports()."""
    need_comparable(report, other)
    return inclusion(report, other)


def is_within_answer(report, other, value):
    """Tell whether any value is an answer that within may return; raise OtherReports()."""
    need_comparable(report, other)
    return is_inclusion(report, other, value)


def same_pairs(report, other):
    """Tell whether two reports have the same pairs in every valid database; raise OtherReports()."""
    return within(report, other)[0] == "yes" and within(other, report)[0] == "yes"


def need_comparable(report, other):
    """Raise OtherReports() if two reports cannot be compared."""
    if report.schema != other.schema or report.aliases[0][1] != other.aliases[0][1]:
        raise OtherReports()
    if len(report.groups) != len(other.groups):
        raise OtherReports()
