"""Striking a meeting with all that it is ahead of."""

from starclocks.cuts import is_name, right_lines
from starclocks.errors import BadMeeting


def struck(house, logs, name):
    """A pair: the cut of what stays if the meeting is struck, and the names of all that goes, ascending."""
    lines = right_lines(house, logs)
    if not is_name(lines, name):
        raise BadMeeting(name)
    part, number = name
    cut = tuple([len([mark for mark in line if mark[part] < number]) for line in lines])
    return cut, tuple([(q, i + 1) for q, line in enumerate(lines) for i in range(cut[q], len(line))])
