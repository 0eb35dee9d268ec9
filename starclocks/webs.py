"""Webs of hands and roads, parts that are found for them, and their two sides."""

from starclocks.errors import BadRoad, BadSize
from starclocks.forms import is_index, is_number, is_pair

MOST_HANDS = 10


def is_size(n):
    """Whether a web may have n hands; n may be any value."""
    return is_number(n) and 1 <= n <= MOST_HANDS


def is_road(n, road):
    """Whether the value is a pair of hands a < b."""
    return is_pair(road) and is_index(road[1], n) and is_index(road[0], road[1])


def road_fits(n, before, value):
    """Whether the value, which may be any, is a road and is above the last one of those before it."""
    return is_road(n, value) and (len(before) == 0 or value > before[-1])


def bad_road(n, roads):
    """The first index whose entry is no road or is not above the one before it, or None."""
    for i, road in enumerate(roads):
        if not road_fits(n, roads[:i], road):
            return i
    return None


def is_web(n, roads):
    """Whether n hands and these roads are a web; both may be any values."""
    return is_size(n) and isinstance(roads, tuple) and bad_road(n, roads) is None


def check_web(n, roads):
    """Raises BadSize or BadRoad unless n hands and the roads are a web."""
    if not is_size(n):
        raise BadSize(n)
    at = bad_road(n, roads)
    if at is not None:
        raise BadRoad(at)


def mates_of(n, roads):
    """For each hand the list of its mates; they ascend, as roads do."""
    mates = [[] for _ in range(n)]
    for one, two in roads:
        mates[one].append(two)
        mates[two].append(one)
    return mates


def busiest(n, roads, left):
    """The least of the hands that have the most of the roads left."""
    loads = [0] * n
    for i in left:
        for hand in roads[i]:
            loads[hand] += 1
    return loads.index(max(loads))


def some_parts(n, roads):
    """Parts of a web: again and again the hand with the most roads left makes a star of them."""
    check_web(n, roads)
    left = list(range(len(roads)))
    parts = []
    while left:
        hand = busiest(n, roads, left)
        parts.append(tuple([i for i in left if hand in roads[i]]))
        left = [i for i in left if hand not in roads[i]]
    # No two parts share a road, so tuples are ordered by their first indexes.
    return tuple(sorted(parts))


def spread(mates, sides, least):
    """Gives each hand of the piece of its least hand a side: that hand 0, mates of a hand the other side."""
    sides[least] = 0
    ready = [least]
    while ready:
        hand = ready.pop()
        for mate in mates[hand]:
            if sides[mate] is None:
                sides[mate] = 1 - sides[hand]
                ready.append(mate)


def two_sides(n, roads):
    """For each hand 0 or 1, different ones for the hands of each road; None if that cannot be."""
    check_web(n, roads)
    mates = mates_of(n, roads)
    sides = [None] * n
    for hand in range(n):
        if sides[hand] is None:
            spread(mates, sides, hand)
    # Within a piece the sides are forced, so one road with like sides means that there are none.
    if any([sides[one] == sides[two] for one, two in roads]):
        return None
    return tuple(sides)
