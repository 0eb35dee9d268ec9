"""A history of right logs: their meetings in an order in which they can have taken place."""

from starclocks.errors import BadLogs, TooMany
from starclocks.histories import MOST_MEETINGS
from starclocks.logsjudge import fault, meetings_many


def check_right(house, logs):
    """Raises BadLogs or TooMany unless the logs are right."""
    found = fault(house, logs)
    if found is not None:
        raise BadLogs(found)
    if meetings_many(logs) > MOST_MEETINGS:
        raise TooMany(meetings_many(logs))


def meetings_of(house, logs):
    """The meetings of right logs as triples (sum of the mark, road, mark), ascending."""
    roads = {road: i for i, road in enumerate(house.roads)}
    found = []
    for hand, log in enumerate(logs):
        for mate, mark in log:
            # Each meeting stands in two logs; it is taken from that of its lesser hand.
            if hand < mate:
                found.append((sum(mark), roads[(hand, mate)], mark))
    return sorted(found)


def history_of(house, logs):
    """The history of right logs whose meetings stand by the sums of their marks, then by their roads."""
    check_right(house, logs)
    return tuple([road for _, road, _ in meetings_of(house, logs)])
