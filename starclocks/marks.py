"""The marks and the names of meetings, and the clocks of hands."""

from starclocks.histories import check_history
from starclocks.parts import part_of


def at_most(one, two):
    """Whether no entry of the one vector is greater than the entry of two there."""
    return all([a <= b for a, b in zip(one, two)])


def greater(one, two):
    """The entrywise greatest of two vectors."""
    return tuple([max(a, b) for a, b in zip(one, two)])


def made_mark(one, two, part):
    """The mark of a meeting on a road of the part: the entrywise greatest of two clocks, 1 more at the part."""
    mark = list(greater(one, two))
    mark[part] += 1
    return tuple(mark)


def marks_and_clocks(house, history):
    """A pair: the marks of all meetings, and the clocks of all hands at the end."""
    check_history(house, history)
    clocks = [(0,) * len(house.parts)] * house.n
    found = []
    for road in history:
        one, two = house.roads[road]
        mark = made_mark(clocks[one], clocks[two], part_of(house, road))
        clocks[one] = mark
        clocks[two] = mark
        found.append(mark)
    return tuple(found), tuple(clocks)


def marks(house, history):
    """The marks of all meetings of a history."""
    return marks_and_clocks(house, history)[0]


def hand_marks(house, history):
    """The clocks of all hands at the end of a history."""
    return marks_and_clocks(house, history)[1]


def names(house, history):
    """The names of all meetings of a history: pairs of a part and a number from 1 on."""
    found = []
    for road, mark in zip(history, marks(house, history)):
        part = part_of(house, road)
        found.append((part, mark[part]))
    return tuple(found)
