"""What of a history is ahead of what, told from marks."""

from starclocks.errors import BadMark, BadMeeting
from starclocks.forms import is_index, is_mark
from starclocks.histories import check_history
from starclocks.marks import at_most, marks


def ahead(one, two):
    """Whether mark one is ahead of mark two: at most two, and not equal to it."""
    if not is_mark(one):
        raise BadMark(0)
    if not is_mark(two) or len(two) != len(one):
        raise BadMark(1)
    return at_most(one, two) and one != two


def check_index(house, history, index):
    """Raises the errors of the history, then BadMeeting unless it has a meeting with this index."""
    check_history(house, history)
    if not is_index(index, len(history)):
        raise BadMeeting(index)


def past(house, history, index):
    """The indexes of the meetings ahead of the one with this index, ascending."""
    check_index(house, history, index)
    found = marks(house, history)
    return tuple([i for i in range(index) if at_most(found[i], found[index])])


def depth(house, history, index):
    """How many meetings the longest line has of which each is ahead of the next and the last is this one."""
    check_index(house, history, index)
    # A longest line goes on from the last meeting of one of both hands, so each hand keeps its longest one.
    lengths = [0] * house.n
    for road in history[:index + 1]:
        one, two = house.roads[road]
        lengths[one] = max(lengths[one], lengths[two]) + 1
        lengths[two] = lengths[one]
    return lengths[house.roads[history[index]][0]]


def first_beside(house, history):
    """The least pair of indexes of meetings neither of which is ahead of the other one, or None."""
    found = marks(house, history)
    for i, mark in enumerate(found):
        for j in range(i + 1, len(found)):
            # A later meeting is never ahead, so one comparison tells.
            if not at_most(mark, found[j]):
                return (i, j)
    return None
