"""What the hands know of one another, and what one of them is missing."""

from starclocks.cuts import right_lines
from starclocks.errors import BadHand
from starclocks.forms import is_index
from starclocks.logs import clock_of
from starclocks.marks import greater
from starclocks.merged import check_right, meetings_of


def tables_of(house, logs):
    """For each hand its table behind the last meeting: for each hand the last mark of it that it has heard of."""
    zeros = (0,) * len(house.parts)
    tables = [(zeros,) * house.n] * house.n
    for _, road, mark in meetings_of(house, logs):
        one, two = house.roads[road]
        table = [greater(a, b) for a, b in zip(tables[one], tables[two])]
        table[one] = mark
        table[two] = mark
        tables[one] = tuple(table)
        tables[two] = tables[one]
    return tuple(tables)


def known(house, logs):
    """The tables of all hands behind the last meeting."""
    check_right(house, logs)
    return tables_of(house, logs)


def missing(house, logs, one, two):
    """The names of the meetings of which hand two has heard and hand one has not, by the sums of their marks."""
    lines = right_lines(house, logs)
    for at, hand in enumerate((one, two)):
        if not is_index(hand, house.n):
            raise BadHand(at)
    heard = clock_of(house, logs[one])
    found = []
    for part, entry in enumerate(clock_of(house, logs[two])):
        for number in range(heard[part] + 1, entry + 1):
            found.append((sum(lines[part][number - 1]), (part, number)))
    return tuple([name for _, name in sorted(found)])
