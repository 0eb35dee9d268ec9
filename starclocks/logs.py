"""Logs: for each hand the rows of its own meetings, pairs of a mate and a mark."""

from starclocks.errors import BadLogs
from starclocks.forms import is_mark, is_number, is_pair
from starclocks.marks import marks
from starclocks.parts import part_of

MOST_ENTRY = 200


def logs_of(house, history):
    """The logs that a history leaves."""
    logs = [[] for _ in range(house.n)]
    for road, mark in zip(history, marks(house, history)):
        one, two = house.roads[road]
        logs[one].append((two, mark))
        logs[two].append((one, mark))
    return tuple([tuple(log) for log in logs])


def ties(house):
    """For each pair of a hand and a mate of it the part of the road between them."""
    found = {}
    for road, (one, two) in enumerate(house.roads):
        part = part_of(house, road)
        found[(one, two)] = part
        found[(two, one)] = part
    return found


def is_row_mark(house, value):
    """Whether the value is a mark as rows have it: one number from 0 to 200 for each part."""
    return is_mark(value) and len(value) == len(house.parts) and all([entry <= MOST_ENTRY for entry in value])


def is_mate(tied, hand, value):
    """Whether the value, which may be any, is a hand with a road to this one."""
    # It is asked to be a number first, for not every value may be a key.
    return is_number(value) and (hand, value) in tied


def is_row(house, tied, hand, value):
    """Whether the value, which may be any, is by its form a row of the hand."""
    return is_pair(value) and is_mate(tied, hand, value[0]) and is_row_mark(house, value[1])


def bad_row(house, logs):
    """The place (hand, index) of the first row that is no row of its hand, or None."""
    tied = ties(house)
    for hand, log in enumerate(logs):
        for index, row in enumerate(log):
            if not is_row(house, tied, hand, row):
                return (hand, index)
    return None


def check_form(house, logs):
    """Raises BadLogs if a row has not the form of a row; nothing else is asked."""
    at = bad_row(house, logs)
    if at is not None:
        raise BadLogs((at[0], at[1], 0))


def clock_of(house, log):
    """The mark of the last row of a log; all 0 if it has none."""
    return log[-1][1] if log else (0,) * len(house.parts)


def first_rows(logs, rows):
    """The logs with just so many first rows of each hand."""
    return tuple([log[:many] for log, many in zip(logs, rows)])
