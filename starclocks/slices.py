"""Slices of right logs: the meetings between two cuts alone, as logs of a history of their own."""

from starclocks.cuts import check_cut, right_lines, rows_in, total_cut
from starclocks.errors import BadMark
from starclocks.forms import is_mark
from starclocks.orders import check_between


def clipped(mark, base):
    """The mark with each entry lessened by that of base, but nowhere below 0."""
    if not is_mark(mark):
        raise BadMark(0)
    if not is_mark(base) or len(base) != len(mark):
        raise BadMark(1)
    return tuple([max(0, a - b) for a, b in zip(mark, base)])


def rows_between(house, logs, low, high):
    """The logs of the meetings between two cuts, their marks clipped by low."""
    found = []
    for log, start, end in zip(logs, rows_in(house, logs, low), rows_in(house, logs, high)):
        found.append(tuple([(mate, clipped(mark, low)) for mate, mark in log[start:end]]))
    return tuple(found)


def sliced(house, logs, low, high):
    """The logs of the meetings that are in the cut high and not in low."""
    check_between(right_lines(house, logs), low, high)
    return rows_between(house, logs, low, high)


def forgotten(house, logs, cut):
    """The logs of the meetings that are not in the cut."""
    lines = right_lines(house, logs)
    check_cut(lines, cut)
    return rows_between(house, logs, cut, total_cut(lines))
