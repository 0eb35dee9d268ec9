"""The live house: a House and its logs, led through deeds that can be undone."""

from starclocks.cuts import is_name, lines_of, rows_in
from starclocks.errors import BadMeeting, BadRoad, NothingToRedo, NothingToUndo, TooMany
from starclocks.forms import is_index
from starclocks.grow import grown, moved
from starclocks.logs import clock_of, first_rows
from starclocks.lost import kept_logs
from starclocks.marks import made_mark
from starclocks.merged import meetings_of
from starclocks.parts import part_of
from starclocks.rebuilt import all_logs
from starclocks.slices import forgotten
from starclocks.strikes import struck

MOST_DEEDS = 200


def with_meeting(home, logs, road):
    """The logs with one more meeting, on this road."""
    one, two = home.roads[road]
    mark = made_mark(clock_of(home, logs[one]), clock_of(home, logs[two]), part_of(home, road))
    found = list(logs)
    found[one] += ((two, mark),)
    found[two] += ((one, mark),)
    return tuple(found)


def moved_logs(logs, parts_go, home):
    """The logs with their marks moved to the parts of a grown house; new hands have no rows."""
    many = len(home.parts)
    found = [tuple([(mate, moved(mark, parts_go, many)) for mate, mark in log]) for log in logs]
    return tuple(found + [()] * (home.n - len(logs)))


class Live:
    """A live house at its beginning: empty logs, and a base of 0."""

    def __init__(self, house):
        # What a live house is at some moment is a triple (House, logs, base) that never changes itself.
        self._now = (house, ((),) * house.n, (0,) * len(house.parts))
        # What was before each deed that stands, and what was behind each one that is undone, the next one last.
        self._before = []
        self._undone = []

    def _stand(self, state):
        """Lets a deed stand that leads to this triple."""
        if len(self._before) == MOST_DEEDS:
            raise TooMany(MOST_DEEDS + 1)
        self._before.append(self._now)
        self._undone = []
        self._now = state

    def meet(self, road):
        """The hands of the road meet."""
        home, logs, base = self._now
        if not is_index(road, len(home.roads)):
            raise BadRoad(road)
        self._stand((home, with_meeting(home, logs, road), base))

    def strike(self, name):
        """The meeting with this name goes, and all meetings that it is ahead of."""
        home, logs, base = self._now
        cut, _ = struck(home, logs, name)
        self._stand((home, first_rows(logs, rows_in(home, logs, cut)), base))

    def forget(self, cut):
        """The meetings in the cut are forgotten; the base tells how many of each part."""
        home, logs, base = self._now
        left = forgotten(home, logs, cut)
        self._stand((home, left, tuple([a + b for a, b in zip(base, cut)])))

    def grow(self, a, b, part):
        """The House grows by the road (a, b) in this part."""
        home, logs, base = self._now
        new, _, parts_go = grown(home, a, b, part)
        self._stand((new, moved_logs(logs, parts_go, new), moved(base, parts_go, len(new.parts))))

    def lose(self, lost):
        """The logs of these hands are lost; what can be told of them comes back."""
        home, logs, base = self._now
        self._stand((home, all_logs(home, kept_logs(home, logs, lost), lost), base))

    def undo(self):
        """The last deed that stands is taken back."""
        if not self._before:
            raise NothingToUndo(0)
        self._undone.append(self._now)
        self._now = self._before.pop()

    def redo(self):
        """The deed that was undone last is done again."""
        if not self._undone:
            raise NothingToRedo(0)
        self._before.append(self._now)
        self._now = self._undone.pop()

    def house(self):
        """The House as it is now."""
        return self._now[0]

    def logs(self):
        """The logs as they are now."""
        return self._now[1]

    def base(self):
        """For each part how many of its meetings are forgotten."""
        return self._now[2]

    def last(self):
        """The name of the last meeting of the history of the logs, or None."""
        home, logs, _ = self._now
        found = meetings_of(home, logs)
        if not found:
            return None
        _, road, mark = found[-1]
        part = part_of(home, road)
        return (part, mark[part])

    def whole(self, name):
        """The name with the meetings of its part that are forgotten added to its number."""
        home, logs, base = self._now
        if not is_name(lines_of(home, logs), name):
            raise BadMeeting(name)
        part, number = name
        return (part, number + base[part])
