"""Falling back: the greatest cut at which each hand has saved what it knew."""

from starclocks.cutlooks import check_rows, lowered_to_rows
from starclocks.cuts import right_lines, rows_in, total_cut
from starclocks.errors import BadSaved
from starclocks.forms import is_rising
from starclocks.logsjudge import logs_right


def bad_saved(logs, saved):
    """The first hand whose entry, which may be any value, is no tuple of saved counts of it, or None."""
    for hand, counts in enumerate(saved):
        if not is_rising(counts, len(logs[hand]) + 1) or counts[:1] != (0,):
            return hand
    return None


def saved_right(house, logs, saved):
    """Whether logs are right logs and saved is saved counts of them; both may be any values."""
    if not logs_right(house, logs) or not isinstance(saved, tuple) or len(saved) != house.n:
        return False
    return bad_saved(logs, saved) is None


def saved_lines(house, logs, saved):
    """The lines of the logs, which are checked to be right, and saved to be saved counts of them."""
    lines = right_lines(house, logs)
    hand = bad_saved(logs, saved)
    if hand is not None:
        raise BadSaved(hand)
    return lines


def row_counts(logs):
    """For each hand how many rows it has."""
    return [len(log) for log in logs]


def saved_below(saved, rows):
    """For each hand its greatest saved count that is at most this number of its rows."""
    return tuple([max([count for count in counts if count <= many]) for counts, many in zip(saved, rows)])


def fallen_back(house, logs, lines, saved, cut, rows):
    """The greatest saved cut that is nowhere above this one and has at most so many rows of each hand."""
    lower = lowered_to_rows(house, logs, lines, cut, rows)
    has = rows_in(house, logs, lower)
    while saved_below(saved, has) != has:
        lower = lowered_to_rows(house, logs, lines, lower, saved_below(saved, has))
        has = rows_in(house, logs, lower)
    return lower


def line_of_saved(house, logs, lines, saved):
    """The greatest saved cut."""
    return fallen_back(house, logs, lines, saved, total_cut(lines), row_counts(logs))


def line(house, logs, saved):
    """The greatest saved cut: where all fall back to."""
    return line_of_saved(house, logs, saved_lines(house, logs, saved), saved)


def fallen(house, logs, saved):
    """For each hand how many of its rows lie beyond the line."""
    cut = line_of_saved(house, logs, saved_lines(house, logs, saved), saved)
    return tuple([many - has for many, has in zip(row_counts(logs), rows_in(house, logs, cut))])


def useful_counts(house, logs, lines, saved, hand):
    """The hand's saved counts, descending, that it has as its number of rows in some saved cut."""
    found = []
    cut = total_cut(lines)
    many = len(logs[hand])
    while many >= 0:
        rows = row_counts(logs)
        rows[hand] = many
        # The greatest cut with fewer rows of a hand is nowhere above the one with more, so the search goes on there.
        cut = fallen_back(house, logs, lines, saved, cut, rows)
        has = rows_in(house, logs, cut)[hand]
        found.append(has)
        many = has - 1
    return found


def useless(house, logs, saved):
    """The pairs (hand, count), ascending, of saved counts that no saved cut has as the hand's number of rows."""
    lines = saved_lines(house, logs, saved)
    found = []
    for hand, counts in enumerate(saved):
        useful = useful_counts(house, logs, lines, saved, hand)
        found.extend([(hand, count) for count in counts if count not in useful])
    return tuple(found)


def line_after(house, logs, saved, rows):
    """The greatest saved cut that has at most so many rows of each hand."""
    lines = saved_lines(house, logs, saved)
    check_rows(logs, rows)
    return fallen_back(house, logs, lines, saved, total_cut(lines), rows)
