"""Hidden meetings that are rebuilt, all logs that can be had of kept ones, and the judge of kept logs."""

from starclocks.errors import MetHand
from starclocks.forms import is_rising
from starclocks.hidden import hidden_names
from starclocks.logsjudge import are_logs, logs_right
from starclocks.lost import check_kept, kept_fault, mark_sum, rows_with_kept
from starclocks.marks import made_mark
from starclocks.parts import part_of


def inner_roads(house, lost):
    """The indexes of the roads of which both hands are lost."""
    return [i for i, (one, two) in enumerate(house.roads) if one in lost and two in lost]


def met_hands(house, lost):
    """The lost hands, ascending, that have two inner roads or more."""
    inner = inner_roads(house, lost)
    return [hand for hand in lost if len([i for i in inner if hand in house.roads[i]]) > 1]


def only_roads(house, lost):
    """For each part with just one inner road that road."""
    inner = inner_roads(house, lost)
    of_parts = [[i for i in part if i in inner] for part in house.parts]
    return {q: found[0] for q, found in enumerate(of_parts) if len(found) == 1}


def line_of(house, kept, hand):
    """The marks of the rows that a lost hand had with kept mates, in their order, behind one of zeros."""
    return [(0,) * len(house.parts)] + [mark for _, mark in rows_with_kept(kept, hand)]


def last_mark(line, part, number):
    """The last mark of a line whose entry for the part is below the number."""
    # Marks that rebuilding appended need not stand last; the sums tell which one does.
    return max([mark for mark in line if mark[part] < number], key=sum)


def rebuilt_mark(house, lines, road, number):
    """The mark of the meeting on a lone road with this number in its part; both hands' lines get it."""
    one, two = house.roads[road]
    part = part_of(house, road)
    mark = made_mark(last_mark(lines[one], part, number), last_mark(lines[two], part, number), part)
    lines[one].append(mark)
    lines[two].append(mark)
    return mark


def found_again(house, kept, lost):
    """For each sure hidden meeting, by names, the pair (road, mark) of what can be told of it."""
    only = only_roads(house, lost)
    met = met_hands(house, lost)
    lines = {hand: line_of(house, kept, hand) for hand in lost}
    found = []
    for part, number in hidden_names(house, kept):
        road = only.get(part)
        mark = None
        # In a part the numbers ascend, so the meetings of the same road before this one are in the lines already.
        if road is not None and not any([hand in met for hand in house.roads[road]]):
            mark = rebuilt_mark(house, lines, road, number)
        found.append((road, mark))
    return found


def logs_again(house, kept, lost):
    """The kept logs, and for each lost hand its rows with kept mates and those of rebuilt meetings."""
    rows = {hand: rows_with_kept(kept, hand) for hand in lost}
    for road, mark in found_again(house, kept, lost):
        if mark is not None:
            one, two = house.roads[road]
            rows[one].append((two, mark))
            rows[two].append((one, mark))
    logs = list(kept)
    for hand in lost:
        logs[hand] = tuple(sorted(rows[hand], key=mark_sum))
    return tuple(logs)


def rebuilt(house, kept, lost):
    """For each sure hidden meeting, by names, a pair of its road and its mark, with None for what is not told."""
    check_kept(house, kept, lost)
    return tuple(found_again(house, kept, lost))


def all_logs(house, kept, lost):
    """Logs whose meetings are those of the kept logs and the sure hidden ones."""
    check_kept(house, kept, lost)
    met = met_hands(house, lost)
    if met:
        raise MetHand(met[0])
    return logs_again(house, kept, lost)


def kept_right(house, kept, lost):
    """Whether kept are the logs that are kept of some history with these lost hands, of which no two inner roads meet.

    Both arguments may be any values.
    """
    if not is_rising(lost, house.n) or not are_logs(house, kept):
        return False
    if met_hands(house, lost) or kept_fault(house, kept, lost) is not None:
        return False
    if any([road is None for road, _ in found_again(house, kept, lost)]):
        return False
    return logs_right(house, logs_again(house, kept, lost))
