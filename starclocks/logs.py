"""Logs: for each hand the rows of its own meetings, pairs of a mate and a mark."""

from starclocks.forms import is_mark, is_number, is_pair
from starclocks.marks import marks
from starclocks.parts import part_of

MOST_ENTRY = 200


def logs_of(house, history):
    """The logs that a history leaves."""
    logs = [[] for _ in range(house.n)]
    for road, mark in zip(history, marks(house, history)):
        one, two = house.roads[road]
        logs[one].append((two, mark))
        logs[two].append((one, mark))
    return tuple([tuple(log) for log in logs])


def ties(house):
    """For each pair of a hand and a mate of it the part of the road between them."""
    found = {}
    for road, (one, two) in enumerate(house.roads):
        part = part_of(house, road)
        found[(one, two)] = part
        found[(two, one)] = part
    return found


def is_row_mark(house, value):
    """Whether the value is a mark as rows have it: one number from 0 to 200 for each part."""
    return is_mark(value) and len(value) == len(house.parts) and all([entry <= MOST_ENTRY for entry in value])


def bad_row(house, logs):
    """The place (hand, index) of the first row that is no row of its hand, or None."""
    tied = ties(house)
    for hand, log in enumerate(logs):
        for index, row in enumerate(log):
            # The mate is asked to be a number first, for not every value may be a key.
            if not is_pair(row) or not is_number(row[0]) or (hand, row[0]) not in tied:
                return (hand, index)
            if not is_row_mark(house, row[1]):
                return (hand, index)
    return None
