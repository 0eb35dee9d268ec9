"""Two copies of the logs of one history: what both tell together, and what is common to both."""

from starclocks.cutlooks import lowered_to_rows
from starclocks.cuts import right_lines, rows_in, total_cut
from starclocks.errors import Parted, TooMany
from starclocks.histories import MOST_MEETINGS
from starclocks.logs import first_rows
from starclocks.logsjudge import meetings_many
from starclocks.merged import check_right


def alike(one, two):
    """How many first rows are alike in two logs of a hand."""
    many = 0
    while many < min(len(one), len(two)) and one[many] == two[many]:
        many += 1
    return many


def rows_alike(one, two):
    """For each hand how many of its first rows are alike in both logs."""
    return [alike(a, b) for a, b in zip(one, two)]


def joined(house, one, two):
    """For each hand the longer one of its two logs, of which the shorter one is the beginning."""
    check_right(house, one)
    check_right(house, two)
    for hand, index in enumerate(rows_alike(one, two)):
        if index < min(len(one[hand]), len(two[hand])):
            raise Parted((hand, index))
    logs = tuple([max(a, b, key=len) for a, b in zip(one, two)])
    if meetings_many(logs) > MOST_MEETINGS:
        raise TooMany(meetings_many(logs))
    return logs


def common(house, one, two):
    """The greatest right logs with which the logs of both begin, hand by hand."""
    lines = right_lines(house, one)
    check_right(house, two)
    cut = lowered_to_rows(house, one, lines, total_cut(lines), rows_alike(one, two))
    return first_rows(one, rows_in(house, one, cut))
