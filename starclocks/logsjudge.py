"""The judge of logs: whether they are right, and which row is the first that is not."""

from starclocks.histories import MOST_MEETINGS
from starclocks.logs import bad_row, ties
from starclocks.marks import made_mark


def places_of(log):
    """For each row of a log the list of its indexes."""
    found = {}
    for index, row in enumerate(log):
        found.setdefault(row, []).append(index)
    return found


def mark_ahead(log, index):
    """The mark of the row ahead of the row with this index; all 0 if there is none."""
    if index == 0:
        return (0,) * len(log[index][1])
    return log[index - 1][1]


def why_unpaired(places, hand, row):
    """1 if the mate's log does not have the row just once, else 2 if this log has it more than once, else None."""
    mate, mark = row
    if len(places[mate].get((hand, mark), [])) != 1:
        return 1
    if len(places[hand][row]) > 1:
        return 2
    return None


def why_bad(logs, places, tied, hand, index):
    """The least number of a fault of this row, 1 to 3, or None; all rows have the form of rows."""
    row = logs[hand][index]
    why = why_unpaired(places, hand, row)
    if why is not None:
        return why
    mate, mark = row
    own = mark_ahead(logs[hand], index)
    other = mark_ahead(logs[mate], places[mate][(hand, mark)][0])
    if mark != made_mark(own, other, tied[(hand, mate)]):
        return 3
    return None


def fault(house, logs):
    """None, or the triple (hand, index, why) of the first row with a fault; bad forms come first."""
    at = bad_row(house, logs)
    if at is not None:
        return (at[0], at[1], 0)
    places = [places_of(log) for log in logs]
    tied = ties(house)
    for hand, log in enumerate(logs):
        for index in range(len(log)):
            why = why_bad(logs, places, tied, hand, index)
            if why is not None:
                return (hand, index, why)
    return None


def are_logs(house, value):
    """Whether the value is a tuple of one tuple for each hand."""
    return (isinstance(value, tuple) and len(value) == house.n
            and all([isinstance(log, tuple) for log in value]))


def meetings_many(logs):
    """How many meetings logs without a fault have: each one stands in just two of them."""
    return sum([len(log) for log in logs]) // 2


def logs_right(house, logs):
    """Whether the value, which may be any, is right logs of the house."""
    if not are_logs(house, logs) or fault(house, logs) is not None:
        return False
    return meetings_many(logs) <= MOST_MEETINGS
