"""The fewest stars for a web with two sides, and as many roads of which no two share a hand."""

from starclocks.errors import NotTwoSided
from starclocks.webs import mates_of, two_sides


def finds_partner(mates, partners, hand, asked):
    """Whether the hand gets a partner by a road; for it others may take other partners."""
    for mate in mates[hand]:
        if mate in asked:
            continue
        asked.append(mate)
        if partners[mate] is None or finds_partner(mates, partners, partners[mate], asked):
            partners[mate] = hand
            partners[hand] = mate
            return True
    return False


def most_partners(mates, sides):
    """For each hand its partner or None, with as many partners as there can be."""
    partners = [None] * len(sides)
    for hand, side in enumerate(sides):
        if side == 0:
            finds_partner(mates, partners, hand, [])
    return partners


def reached(mates, sides, partners):
    """For each hand whether a line leads to it from a hand of side 0 without a partner.

    From side 0 the line goes on by any road, from side 1 by the road to the partner.
    """
    ready = [hand for hand, side in enumerate(sides) if side == 0 and partners[hand] is None]
    found = [False] * len(sides)
    while ready:
        hand = ready.pop()
        found[hand] = True
        for mate in mates[hand]:
            if not found[mate]:
                found[mate] = True
                # The mate has a partner, for otherwise there could be one pair more.
                ready.append(partners[mate])
    return found


def hubs_of(mates, sides, partners):
    """As few hands as can be, so that each road has one of them: one hand of each pair of partners."""
    found = reached(mates, sides, partners)
    return [hand for hand, side in enumerate(sides) if found[hand] == (side == 1)]


def stars_at(roads, hubs):
    """Parts: a star at each hub, with each road at one of its hubs."""
    stars = {hub: [] for hub in hubs}
    for i, (one, two) in enumerate(roads):
        stars[one if one in stars else two].append(i)
    # No star is empty: the road between a hub and its partner has no other hub.
    return tuple(sorted([tuple(star) for star in stars.values()]))


def fewest(n, roads):
    """A pair (parts, pairs): the fewest stars, and the most roads of which no two share a hand."""
    sides = two_sides(n, roads)
    if sides is None:
        raise NotTwoSided(0)
    mates = mates_of(n, roads)
    partners = most_partners(mates, sides)
    parts = stars_at(roads, hubs_of(mates, sides, partners))
    return parts, tuple([road for road in roads if partners[road[0]] == road[1]])
