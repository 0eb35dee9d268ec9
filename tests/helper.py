"""What several tests share: all small webs, values of any form, a check of errors, houses and histories."""

from itertools import combinations
from random import Random

from starclocks import errors
from starclocks.parts import house

# Values built from tuples, texts and numbers that are no pair of hands, no part, no index and no mark.
DEEP = ()
for _ in range(99):
    DEEP = (DEEP,)
ODD = ("", "0", "ab", (), ((),), "01", -1, 10 ** 30, (0,), (0, 1, 2), ((0, 1),), ("0", "1"), ("a", 1), (0, "a"),
       (0, (1,)), ((0,), 1), DEEP)

ERRORS = ("BadSize", "BadRoad", "BadPart", "NotTwoSided", "BadMeeting", "BadMark", "BadLogs", "BadCut", "BadHand",
          "BadSaved", "TooMany", "BadCount", "MetHand", "Parted", "BadText", "NothingToUndo", "NothingToRedo")


def webs(n):
    """All tuples of roads among n hands."""
    pairs = list(combinations(range(n), 2))
    for many in range(len(pairs) + 1):
        for roads in combinations(pairs, many):
            yield roads


def refuses(test, kind, what, call, *args, **more):
    """The call raises an error of just this class, with this `what`."""
    try:
        got = call(*args, **more)
    except errors.Refused as e:
        test.assertEqual((type(e).__name__, e.what), (kind.__name__, what))
        test.assertIs(type(e), kind)
        test.assertIs(type(e.what), type(what))
    else:
        test.fail(f"{kind.__name__}({what!r}) was not raised, but {got!r} returned")


def plain(test, value):
    """The value is a number, None or a tuple of such: no list, no bool."""
    if value is None or type(value) is int:
        return
    test.assertIs(type(value), tuple)
    for entry in value:
        plain(test, entry)


LINE = house(3, ((0, 1), (1, 2)), ((0,), (1,)))
ONE_STAR = house(3, ((0, 1), (1, 2)), ((0, 1),))
TRIANGLE = house(3, ((0, 1), (0, 2), (1, 2)), ((0, 1, 2),))
PIECES = house(4, ((0, 1), (2, 3)), ((0,), (1,)))
ROAD = house(2, ((0, 1),), ((0,),))
BARE = house(3, (), ())
# Hands 0 to 2 are a triangle, hand 3 has a star of three; hand 7 has no road.
MIXED = house(8, ((0, 1), (0, 2), (1, 2), (2, 3), (3, 4), (3, 5), (5, 6)), ((0, 1, 2), (3, 4, 5), (6,)))
RING = house(5, ((0, 1), (0, 4), (1, 2), (2, 3), (3, 4)), ((0, 2), (1,), (3, 4)))
TWO_PIECES = house(9, ((0, 1), (0, 2), (1, 2), (3, 4), (5, 6), (5, 7), (6, 8)), ((0, 1, 2), (3,), (4, 5), (6,)))
HOUSES = (LINE, ONE_STAR, TRIANGLE, PIECES, ROAD, MIXED, RING, TWO_PIECES)


def full_house():
    """Ten hands with all roads, each a part by itself."""
    roads = tuple(combinations(range(10), 2))
    return house(10, roads, tuple((i,) for i in range(len(roads))))


def some_histories(home, many=6, longest=30):
    """Histories of several lengths, always the same ones; the empty one is the first."""
    chance = Random(f"{home.n} {home.roads} {home.parts}")
    yield ()
    for _ in range(many):
        yield tuple(chance.randrange(len(home.roads)) for _ in range(chance.randint(1, longest)))


def pasts(home, history):
    """For each meeting the set of those ahead of it, from what [4] says alone."""
    found = []
    for i, road in enumerate(history):
        before = set()
        for j in range(i):
            if set(home.roads[road]) & set(home.roads[history[j]]):
                before |= {j} | found[j]
        found.append(before)
    return found


def part_at(home, road):
    """The index of the part with the road."""
    return next(q for q, part in enumerate(home.parts) if road in part)
