"""Cuts that are found by bounds, and the walk through all cuts between two."""

from starclocks.cuts import is_name, is_over, right_lines, total_cut
from starclocks.errors import BadCut, BadHand, BadMeeting, TooMany
from starclocks.forms import is_index
from starclocks.logs import ties
from starclocks.merged import check_right

MOST_CUTS = 5000


def lowered(lines, bound):
    """The greatest cut that is nowhere above the bound, a vector of numbers from 0 on."""
    cut = [min(entry, len(line)) for entry, line in zip(bound, lines)]
    going = True
    while going:
        going = False
        for q, line in enumerate(lines):
            if is_over(line, cut[q], cut):
                cut[q] -= 1
                going = True
    return tuple(cut)


def greatest_cut(house, logs, bound):
    """The greatest cut that is nowhere above the bound."""
    lines = right_lines(house, logs)
    if len(bound) != len(lines):
        raise BadCut(len(bound))
    for q, entry in enumerate(bound):
        if entry < 0:
            raise BadCut(q)
    return lowered(lines, bound)


def bound_of_rows(house, logs, lines, rows):
    """For each part how many meetings there are ahead of the first one that a hand with so many rows has not."""
    tied = ties(house)
    bound = list(total_cut(lines))
    for hand, many in enumerate(rows):
        # The first row that may not be in the cut keeps out all later ones of this hand.
        if many < len(logs[hand]):
            mate, mark = logs[hand][many]
            q = tied[(hand, mate)]
            bound[q] = min(bound[q], mark[q] - 1)
    return bound


def lowered_to_rows(house, logs, lines, cut, rows):
    """The greatest cut that is nowhere above this one and in which no hand has more rows than rows says."""
    bound = bound_of_rows(house, logs, lines, rows)
    return lowered(lines, [min(a, b) for a, b in zip(cut, bound)])


def check_rows(logs, rows):
    """Raises BadHand unless there is one number for each hand, from 0 to how many rows it has."""
    if len(rows) != len(logs):
        raise BadHand(len(rows))
    for hand, many in enumerate(rows):
        if not is_index(many, len(logs[hand]) + 1):
            raise BadHand(hand)


def cut_of_rows(house, logs, rows):
    """The greatest cut in which no hand has more rows than rows says."""
    lines = right_lines(house, logs)
    check_rows(logs, rows)
    return lowered_to_rows(house, logs, lines, total_cut(lines), rows)


def least_cut(house, logs, names):
    """The least cut in which the meetings with all these names are."""
    lines = right_lines(house, logs)
    for index, name in enumerate(names):
        if not is_name(lines, name):
            raise BadMeeting(index)
    cut = [0] * len(lines)
    for part, number in names:
        cut = [max(a, b) for a, b in zip(cut, lines[part][number - 1])]
    return tuple(cut)


def steps_from(roads, logs, rows, ends):
    """The pairs (road, rows behind it), ascending, of the meetings that can come next behind these rows.

    A meeting can come if it stands in the next row of both its hands. Behind ends nothing comes.
    """
    found = []
    for hand, at in enumerate(rows):
        if at == ends[hand]:
            continue
        mate, mark = logs[hand][at]
        # Rows and ends come of cuts, so the mate, too, has its row of this meeting between them.
        if hand < mate and logs[mate][rows[mate]] == (hand, mark):
            behind = list(rows)
            behind[hand] += 1
            behind[mate] += 1
            found.append((roads[(hand, mate)], tuple(behind)))
    # Hands ascend here, and each one stands in one next meeting at most; so the roads ascend, too.
    return found


def walk(house, logs, starts, ends):
    """For each cut from one to another one its steps_from; a step always leads to a later key.

    Cuts are told here by the numbers of rows that each hand has in them: of different cuts they are different.
    Raises TooMany if there are more than 5000 cuts.
    """
    roads = {road: i for i, road in enumerate(house.roads)}
    steps = {}
    level = [starts]
    while level:
        if len(steps) + len(level) > MOST_CUTS:
            raise TooMany(MOST_CUTS + 1)
        nexts = {}
        for rows in level:
            steps[rows] = steps_from(roads, logs, rows, ends)
            for _, behind in steps[rows]:
                nexts[behind] = True
        level = list(nexts)
    return steps


def walk_all(house, logs):
    """The walk through all cuts of the logs."""
    return walk(house, logs, (0,) * house.n, tuple([len(log) for log in logs]))


def cuts_many(house, logs):
    """How many cuts there are."""
    check_right(house, logs)
    return len(walk_all(house, logs))
