"""What stands of spoilt logs: the rows that can be taken meeting by meeting, and why others cannot."""

from starclocks.logs import check_form, clock_of, ties
from starclocks.marks import made_mark


def next_row(logs, taken, hand):
    """The first row of the hand that is not taken, or None."""
    at = len(taken[hand])
    return logs[hand][at] if at < len(logs[hand]) else None


def next_meeting(house, tied, logs, taken, hand):
    """The pair (mate, mark) of the meeting in the next row of the hand if it can be taken, otherwise None."""
    row = next_row(logs, taken, hand)
    if row is None:
        return None
    mate, mark = row
    twin = next_row(logs, taken, mate)
    if twin is None or twin[0] != hand:
        return None
    made = made_mark(clock_of(house, taken[hand]), clock_of(house, taken[mate]), tied[(hand, mate)])
    if mark not in (None, made) or twin[1] not in (None, made):
        return None
    return mate, made


def standing(house, logs):
    """For each hand the list of its rows that stand; where a row has None for a mark, the mark that is made."""
    tied = ties(house)
    taken = [[] for _ in range(house.n)]
    ready = list(range(house.n))
    while ready:
        hand = ready.pop()
        found = next_meeting(house, tied, logs, taken, hand)
        if found is not None:
            mate, mark = found
            taken[hand].append((mate, mark))
            taken[mate].append((hand, mark))
            # Only these two have another next row now, so only with them another meeting may have become ready.
            ready.extend([hand, mate])
    return taken


def head(house, logs):
    """For each hand how many of its rows stand."""
    check_form(house, logs)
    return tuple([len(log) for log in standing(house, logs)])


def mended(house, logs):
    """The logs of the rows that stand."""
    check_form(house, logs)
    return tuple([tuple(log) for log in standing(house, logs)])


def why_stuck(logs, taken, hand):
    """Why the next row of the hand cannot be taken, 0 to 2; None if it has none."""
    row = next_row(logs, taken, hand)
    if row is None:
        return None
    twin = next_row(logs, taken, row[0])
    if twin is None:
        return 1
    return 2 if twin[0] == hand else 0


def stuck(house, logs):
    """For each hand None if all its rows stand, otherwise the number that tells why its next row does not."""
    check_form(house, logs)
    taken = standing(house, logs)
    return tuple([why_stuck(logs, taken, hand) for hand in range(house.n)])
