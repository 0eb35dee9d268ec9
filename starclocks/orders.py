"""Orders in which meetings can be gone through: how many there are, the one with a number, and its number."""

from starclocks.cutlooks import walk, walk_all
from starclocks.cuts import check_cut, right_lines, rows_in
from starclocks.errors import BadCount, BadCut, BadMeeting
from starclocks.histories import check_history
from starclocks.marks import at_most
from starclocks.merged import check_right


def ways_of(steps):
    """For each cut of a walk the number of orders in which one can go on from it to the end."""
    ways = {}
    for rows in reversed(list(steps)):
        # Only the end has no steps, and from it there is the one order of nothing.
        ways[rows] = max(1, sum([ways[behind] for _, behind in steps[rows]]))
    return ways


def check_between(lines, low, high):
    """Raises BadCut unless both are cuts and low is nowhere above high."""
    check_cut(lines, low)
    check_cut(lines, high)
    if not at_most(low, high):
        raise BadCut(len(lines))


def orders_many(house, logs, low, high):
    """The number of orders of the meetings that are in the cut high and not in low."""
    check_between(right_lines(house, logs), low, high)
    start = rows_in(house, logs, low)
    return ways_of(walk(house, logs, start, rows_in(house, logs, high)))[start]


def step_with(steps, ways, k):
    """The place of the step with which the order number k of all that go on goes on, and its number behind it."""
    at = 0
    left = k
    while left >= ways[steps[at][1]]:
        left -= ways[steps[at][1]]
        at += 1
    return at, left


def nth_order(house, logs, k):
    """The history with the number k, from 0, of all that leave these logs, in ascending order."""
    check_right(house, logs)
    if k < 0:
        raise BadCount(k)
    steps = walk_all(house, logs)
    ways = ways_of(steps)
    rows = (0,) * house.n
    if k >= ways[rows]:
        raise BadCount(k)
    history = []
    left = k
    while steps[rows]:
        at, left = step_with(steps[rows], ways, left)
        road, rows = steps[rows][at]
        history.append(road)
    return tuple(history)


def order_rank(house, logs, history):
    """The number, from 0, that the history has among all that leave these logs, in ascending order."""
    check_right(house, logs)
    check_history(house, history)
    steps = walk_all(house, logs)
    ways = ways_of(steps)
    rows = (0,) * house.n
    rank = 0
    for index, road in enumerate(history):
        behind = dict(steps[rows])
        if road not in behind:
            raise BadMeeting(index)
        rank += sum([ways[behind[other]] for other in behind if other < road])
        rows = behind[road]
    if steps[rows]:
        raise BadMeeting(len(history))
    return rank
