"""Houses: webs whose roads are parted into stars and triangles."""

from starclocks.errors import BadPart, BadRoad
from starclocks.forms import is_index, is_rising
from starclocks.webs import check_web, is_web


class House:
    """A web of n hands with roads and parts; made by house, and never changed."""

    def __init__(self, n, roads, parts):
        self.n = n
        self.roads = roads
        self.parts = parts

    def __eq__(self, other):
        return (isinstance(other, House) and self.n == other.n and self.roads == other.roads
                and self.parts == other.parts)


def is_star(roads, part):
    """Whether the roads with these indexes, at least one, all have one common hand."""
    return any([all([hand in roads[i] for i in part]) for hand in roads[part[0]]])


def is_triangle(roads, part):
    """Whether the roads with these indexes are the three roads among three hands."""
    return len(part) == 3 and len({hand for i in part for hand in roads[i]}) == 3


def is_part(roads, part):
    """Whether the value is a strictly ascending tuple of indexes of a star or a triangle."""
    if not is_rising(part, len(roads)) or len(part) == 0:
        return False
    return is_star(roads, part) or is_triangle(roads, part)


def part_fits(roads, before, value):
    """Whether the value, which may be any, is a part that can stand behind these parts before it."""
    if not is_part(roads, value):
        return False
    if len(before) > 0 and value[0] <= before[-1][0]:
        return False
    return not any([road in part for part in before for road in value])


def all_taken(roads, parts):
    """Whether each road is in one of these parts, of which no two share a road."""
    return sum([len(part) for part in parts]) == len(roads)


def bad_part(roads, parts):
    """The first index whose entry cannot be a part there; how many parts if a road is in none; or None."""
    for i, part in enumerate(parts):
        if not part_fits(roads, parts[:i], part):
            return i
    if not all_taken(roads, parts):
        return len(parts)
    return None


def house(n, roads, parts):
    """The House of n hands with these roads and parts."""
    check_web(n, roads)
    at = bad_part(roads, parts)
    if at is not None:
        raise BadPart(at)
    return House(n, roads, parts)


def is_parts(n, roads, parts):
    """Whether there is a House of these values, which may be anything."""
    return is_web(n, roads) and isinstance(parts, tuple) and bad_part(roads, parts) is None


def part_of(house, road):
    """The index of the part that has the road with this index."""
    if not is_index(road, len(house.roads)):
        raise BadRoad(road)
    return [road in part for part in house.parts].index(True)
