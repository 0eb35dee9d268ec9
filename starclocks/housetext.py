"""Houses as strict texts."""

from starclocks.errors import BadText
from starclocks.forms import read_rows, written_row
from starclocks.parts import House, all_taken, part_fits
from starclocks.webs import is_size, road_fits


def house_text(house):
    """The text of a house."""
    rows = [written_row("hands", (house.n,))]
    rows.extend([written_row("road", road) for road in house.roads])
    rows.extend([written_row("part", part) for part in house.parts])
    return "\n".join(rows)


def read_webs(n, rows):
    """A pair: the roads, and the parts, of rows behind the first one; each row is asked with those before it."""
    roads = []
    parts = []
    for i, (word, numbers) in enumerate(rows, start=1):
        if word == "road" and not parts and road_fits(n, roads, numbers):
            roads.append(numbers)
        elif word == "part" and part_fits(roads, parts, numbers):
            parts.append(numbers)
        else:
            raise BadText(i)
    return roads, parts


def house_of(text):
    """The House that has this text."""
    rows = read_rows(text)
    word, numbers = rows[0]
    if word != "hands" or len(numbers) != 1 or not is_size(numbers[0]):
        raise BadText(0)
    roads, parts = read_webs(numbers[0], rows[1:])
    if not all_taken(roads, parts):
        raise BadText(len(rows))
    return House(numbers[0], tuple(roads), tuple(parts))
