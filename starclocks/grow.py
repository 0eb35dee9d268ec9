"""Growing a house by a road, and what becomes of indexes and marks there."""

from starclocks.errors import BadHand, BadMark, BadPart, BadRoad, BadSize
from starclocks.forms import is_index, is_mark
from starclocks.parts import House, is_part
from starclocks.webs import MOST_HANDS


def check_new_road(house, a, b):
    """Raises BadHand, BadSize or BadRoad unless the road (a, b) can be put to the house, b perhaps a new hand."""
    if not is_index(a, house.n):
        raise BadHand(a)
    if not is_index(b, house.n + 1) or b <= a:
        raise BadHand(b)
    if b == MOST_HANDS:
        raise BadSize(MOST_HANDS + 1)
    if (a, b) in house.roads:
        raise BadRoad(house.roads.index((a, b)))


def parts_with(house, roads, road, part):
    """The elder parts in their order, by the indexes of these roads, and the new road in the part with this index."""
    found = [tuple([roads.index(house.roads[i]) for i in own]) for own in house.parts] + [()]
    found[part] = tuple(sorted(found[part] + (roads.index(road),)))
    return found


def grown(house, a, b, part):
    """A triple: the House with the road (a, b) in that part, and where the elder roads and the elder parts go."""
    check_new_road(house, a, b)
    roads = tuple(sorted(house.roads + ((a, b),)))
    if not is_index(part, len(house.parts) + 1):
        raise BadPart(part)
    found = parts_with(house, roads, (a, b), part)
    if not is_part(roads, found[part]):
        raise BadPart(part)
    # What is empty is the place of a new part where there is none.
    parts = tuple(sorted([own for own in found if own != ()]))
    roads_go = tuple([roads.index(road) for road in house.roads])
    parts_go = tuple([parts.index(own) for own in found[:len(house.parts)]])
    return House(max(house.n, b + 1), roads, parts), roads_go, parts_go


def moved(mark, parts_go, many):
    """The vector of so many entries in which the entries of the mark stand where the elder parts go."""
    if not is_mark(mark):
        raise BadMark(0)
    if len(mark) != len(parts_go):
        raise BadMark(len(mark))
    found = [0] * many
    for entry, part in zip(mark, parts_go):
        found[part] = entry
    return tuple(found)
