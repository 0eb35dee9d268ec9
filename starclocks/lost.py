"""Lost hands, the logs that are kept of the others, and the rows that are found again with kept mates."""

from starclocks.asks import ahead
from starclocks.errors import BadHand, BadLogs
from starclocks.forms import bad_rise
from starclocks.logs import bad_row
from starclocks.logsjudge import places_of, why_unpaired
from starclocks.merged import check_right


def check_lost(house, lost):
    """Raises BadHand unless the tuple is a strictly ascending one of hands."""
    at = bad_rise(lost, house.n)
    if at is not None:
        raise BadHand(at)


def bad_place(house, kept, lost):
    """The place (hand, index) of the first row that is none of its hand or of a log that should be lost, or None."""
    found = [(hand, 0) for hand in lost if kept[hand] != ()]
    at = bad_row(house, kept)
    if at is not None:
        found.append(at)
    return min(found, default=None)


def why_bad_kept(kept, places, lost, hand, index):
    """The least number of a fault of this kept row, 1 to 3, or None; all rows have the form of rows."""
    row = kept[hand][index]
    if row[0] not in lost:
        why = why_unpaired(places, hand, row)
        if why is not None:
            return why
    if index > 0 and not ahead(kept[hand][index - 1][1], row[1]):
        return 3
    return None


def kept_fault(house, kept, lost):
    """None, or the triple (hand, index, why) with which kept logs are refused."""
    at = bad_place(house, kept, lost)
    if at is not None:
        return (at[0], at[1], 0)
    places = [places_of(log) for log in kept]
    for hand, log in enumerate(kept):
        for index in range(len(log)):
            why = why_bad_kept(kept, places, lost, hand, index)
            if why is not None:
                return (hand, index, why)
    return None


def check_kept(house, kept, lost):
    """Raises BadHand or BadLogs if the lost hands, or else the kept logs, are refused."""
    check_lost(house, lost)
    found = kept_fault(house, kept, lost)
    if found is not None:
        raise BadLogs(found)


def mark_sum(row):
    """The sum of a row's mark; the rows of one hand stand by it."""
    return sum(row[1])


def rows_with_kept(kept, hand):
    """The rows that the log of a lost hand had with kept mates, in their order."""
    found = [(mate, row[1]) for mate, log in enumerate(kept) for row in log if row[0] == hand]
    return sorted(found, key=mark_sum)


def kept_logs(house, logs, lost):
    """The logs without those of the lost hands."""
    check_right(house, logs)
    check_lost(house, lost)
    return tuple([() if hand in lost else log for hand, log in enumerate(logs)])


def whole_again(house, kept, lost):
    """For each lost hand the rows that its log had with kept mates, in their order."""
    check_kept(house, kept, lost)
    return tuple([tuple(rows_with_kept(kept, hand)) for hand in lost])
