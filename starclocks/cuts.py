"""Cuts of right logs: for each part how many of its first meetings can have happened up to some moment."""

from starclocks.errors import BadCut
from starclocks.forms import is_index, is_number_pair
from starclocks.logs import ties
from starclocks.logsjudge import logs_right
from starclocks.marks import at_most
from starclocks.merged import check_right, meetings_of
from starclocks.parts import part_of


def lines_of(house, logs):
    """For each part the marks of its meetings; the mark of the meeting (q, i) stands in line q at i - 1."""
    lines = [[] for _ in house.parts]
    # The sums of the marks ascend with the numbers in a part.
    for _, road, mark in meetings_of(house, logs):
        lines[part_of(house, road)].append(mark)
    return lines


def right_lines(house, logs):
    """The lines of logs that are checked to be right."""
    check_right(house, logs)
    return lines_of(house, logs)


def is_name(lines, value):
    """Whether the value, which may be any, is the name of a meeting of these lines."""
    if not is_number_pair(value) or not is_index(value[0], len(lines)):
        return False
    return is_index(value[1] - 1, len(lines[value[0]]))


def is_over(line, number, cut):
    """Whether the part has a meeting with this number (it has none with 0) whose mark is somewhere above the cut."""
    return number > 0 and not at_most(line[number - 1], cut)


def bad_cut(lines, cut):
    """What is told of a tuple that is no cut: how many entries, or the index of the first bad one; or None."""
    if len(cut) != len(lines):
        return len(cut)
    for q, entry in enumerate(cut):
        if not is_index(entry, len(lines[q]) + 1):
            return q
    for q, entry in enumerate(cut):
        if is_over(lines[q], entry, cut):
            return q
    return None


def check_cut(lines, cut):
    """Raises BadCut unless the tuple is a cut."""
    found = bad_cut(lines, cut)
    if found is not None:
        raise BadCut(found)


def total_cut(lines):
    """The cut of all meetings."""
    return tuple([len(line) for line in lines])


def rows_in(house, logs, cut):
    """For each hand how many of its rows are in the cut."""
    tied = ties(house)
    found = []
    for hand, log in enumerate(logs):
        parts = [tied[(hand, mate)] for mate, _ in log]
        found.append(len([q for q, (_, mark) in zip(parts, log) if mark[q] <= cut[q]]))
    return tuple(found)


def totals(house, logs):
    """For each part how many meetings it has."""
    return total_cut(right_lines(house, logs))


def is_cut(house, logs, cut):
    """Whether logs, which may be any value, are right logs of the house, and cut, which may be any, is one of them."""
    if not logs_right(house, logs) or not isinstance(cut, tuple):
        return False
    return bad_cut(lines_of(house, logs), cut) is None


def cut_rows(house, logs, cut):
    """For each hand how many of its rows, always its first ones, are in the cut."""
    check_cut(right_lines(house, logs), cut)
    return rows_in(house, logs, cut)
