"""What all hands of a piece have heard of, and so may be forgotten."""

from starclocks.errors import BadHand
from starclocks.forms import is_index
from starclocks.knows import tables_of
from starclocks.logs import clock_of
from starclocks.merged import check_right


def pieces_of(house):
    """For each hand a number that just the hands of its piece have."""
    found = list(range(house.n))
    for one, two in house.roads:
        found = [found[one] if piece == found[two] else piece for piece in found]
    return found


def hands_of_parts(house):
    """For each part the list of the hands of its piece."""
    pieces = pieces_of(house)
    found = []
    for part in house.parts:
        # All roads of a part lie in one piece, so any hand of it tells which.
        own = pieces[house.roads[part[0]][0]]
        found.append([hand for hand, piece in enumerate(pieces) if piece == own])
    return found


def least_entries(house, vectors):
    """For each part the least entry for it in those of the vectors, one for each hand, of the hands of its piece."""
    found = [min([vectors[hand][q] for hand in hands]) for q, hands in enumerate(hands_of_parts(house))]
    return tuple(found)


def common_cut(house, logs):
    """The cut of what all hands of a piece have heard of."""
    check_right(house, logs)
    return least_entries(house, [clock_of(house, log) for log in logs])


def may_forget(house, logs, hand):
    """The cut of what this hand can be sure that all hands of its piece have heard of."""
    check_right(house, logs)
    if not is_index(hand, house.n):
        raise BadHand(hand)
    return least_entries(house, tables_of(house, logs)[hand])
