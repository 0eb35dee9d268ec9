"""Logs as strict texts."""

from starclocks.errors import BadText
from starclocks.forms import read_rows, written_row
from starclocks.logs import check_form, is_row, ties


def logs_text(house, logs):
    """The text of logs; whether they are right is not asked."""
    check_form(house, logs)
    rows = []
    for hand, log in enumerate(logs):
        rows.append(written_row("hand", (hand,)))
        rows.extend([written_row("with", (mate, *mark)) for mate, mark in log])
    return "\n".join(rows)


def told_row(numbers):
    """What the numbers of a row tell: a pair of a mate and a mark; () if there is none."""
    return (numbers[0], numbers[1:]) if numbers else ()


def logs_of_text(house, text):
    """The logs that have this text."""
    tied = ties(house)
    rows = read_rows(text)
    logs = []
    for i, (word, numbers) in enumerate(rows):
        if word == "hand" and len(logs) < house.n and numbers == (len(logs),):
            logs.append([])
        # Ahead of the first hand a row of hand -1 is asked for, and there is none.
        elif word == "with" and is_row(house, tied, len(logs) - 1, told_row(numbers)):
            logs[-1].append(told_row(numbers))
        else:
            raise BadText(i)
    if len(logs) < house.n:
        raise BadText(len(rows))
    return tuple([tuple(log) for log in logs])
