"""[28] grown and moved."""

import unittest
from random import Random

from starclocks.errors import BadHand, BadMark, BadPart, BadRoad, BadSize
from starclocks.grow import grown, moved
from starclocks.marks import marks
from starclocks.parts import House, house, is_parts
from tests.helper import (BARE, HOUSES, LINE, ODD, ONE_STAR, PIECES, ROAD, TRIANGLE, all_houses, full_house, plain,
                          refuses, some_histories)

# The house of the example of [28].
EXAMPLE = house(3, ((0, 2), (1, 2)), ((0,), (1,)))


def fits(roads):
    """Whether these roads, as pairs, are a star or a triangle."""
    hands = {hand for road in roads for hand in road}
    return any(all(hand in road for road in roads) for hand in hands) or (len(roads) == 3 and len(hands) == 3)


def pairs_of(home, part):
    return {home.roads[i] for i in part}


def new_roads(home):
    """All pairs (a, b) that can be put to a house."""
    return [(a, b) for a in range(home.n) for b in range(a + 1, min(home.n + 1, 10)) if (a, b) not in home.roads]


class Grown(unittest.TestCase):
    def test_the_example(self):
        got = grown(EXAMPLE, 0, 1, 1)
        self.assertEqual(got, (house(3, ((0, 1), (0, 2), (1, 2)), ((0, 2), (1,))), (1, 2), (1, 0)))
        self.assertEqual(moved((1, 0), got[2], 2), (0, 1))

    def test_all_roads_and_parts_of_several_houses(self):
        seen = set()
        for home in all_houses() + (EXAMPLE, grown(EXAMPLE, 0, 1, 1)[0]):
            for a, b in new_roads(home):
                for part in range(len(home.parts) + 1):
                    elder = pairs_of(home, home.parts[part]) if part < len(home.parts) else set()
                    if not fits(elder | {(a, b)}):
                        refuses(self, BadPart, part, grown, home, a, b, part)
                        continue
                    self.grows(home, (a, b), part, elder)
                    seen.add((b == home.n, part == len(home.parts), len(elder)))
        self.assertTrue({(True, True, 0), (False, True, 0), (True, False, 1), (False, False, 2)} <= seen)

    def grows(self, home, road, part, elder):
        before = (home.n, home.roads, home.parts)
        got = grown(home, *road, part)
        self.assertIs(type(got), tuple)
        new, roads_go, parts_go = got
        self.assertIs(type(new), House)
        plain(self, (new.n, new.roads, new.parts, roads_go, parts_go))
        self.assertIs(is_parts(new.n, new.roads, new.parts), True)
        self.assertEqual(new.n, max(home.n, road[1] + 1))
        self.assertEqual(set(new.roads), set(home.roads) | {road})
        self.assertEqual(len(roads_go), len(home.roads))
        self.assertEqual(tuple(new.roads[i] for i in roads_go), home.roads)
        self.assertEqual(len(parts_go), len(home.parts))
        for q, own in enumerate(home.parts):
            more = {road} if q == part else set()
            self.assertEqual(pairs_of(new, new.parts[parts_go[q]]), pairs_of(home, own) | more)
        self.assertEqual(len(new.parts), len(home.parts) + (elder == set()))
        if elder == set():
            self.assertIn((new.roads.index(road),), new.parts)
        # Nothing that was handed in is changed.
        self.assertEqual((home.n, home.roads, home.parts), before)

    def test_marks_of_a_history_that_goes_on(self):
        for home in HOUSES + (EXAMPLE,):
            chance = Random(home.n)
            ways = [(road, part) for road in new_roads(home) for part in range(len(home.parts) + 1)
                    if fits((pairs_of(home, home.parts[part]) if part < len(home.parts) else set()) | {road})]
            for history in some_histories(home, many=4):
                for road, part in chance.sample(ways, min(6, len(ways))):
                    new, roads_go, parts_go = grown(home, *road, part)
                    later = tuple(chance.randrange(len(new.roads)) for _ in range(5))
                    going = marks(new, tuple(roads_go[i] for i in history) + later)
                    self.assertEqual(going[:len(history)],
                                     tuple(moved(mark, parts_go, len(new.parts)) for mark in marks(home, history)))

    def test_a_star_and_a_triangle(self):
        new, roads_go, parts_go = grown(ROAD, 1, 2, 0)
        self.assertEqual((new, roads_go, parts_go), (ONE_STAR, (0,), (0,)))
        self.assertEqual(grown(ONE_STAR, 0, 2, 0), (TRIANGLE, (0, 2), (0,)))
        refuses(self, BadPart, 0, grown, TRIANGLE, 0, 3, 0)
        refuses(self, BadPart, 0, grown, ONE_STAR, 0, 3, 0)
        self.assertEqual(grown(ONE_STAR, 1, 3, 0)[0].parts, ((0, 1, 2),))

    def test_a_new_part_by_itself(self):
        self.assertEqual(grown(house(1, (), ()), 0, 1, 0), (ROAD, (), ()))
        self.assertEqual(grown(BARE, 0, 2, 0), (house(3, ((0, 2),), ((0,),)), (), ()))
        self.assertEqual(grown(EXAMPLE, 0, 1, 2), (house(3, ((0, 1), (0, 2), (1, 2)), ((0,), (1,), (2,))),
                                                   (1, 2), (1, 2)))
        self.assertEqual(grown(part=2, b=3, a=2, house=LINE), (house(4, ((0, 1), (1, 2), (2, 3)), ((0,), (1,), (2,))),
                                                               (0, 1), (0, 1)))

    def test_up_to_ten_hands(self):
        home = house(1, (), ())
        for hand in range(1, 10):
            home = grown(home, 0, hand, 0)[0]
        self.assertEqual(home, house(10, tuple((0, hand) for hand in range(1, 10)), (tuple(range(9)),)))
        refuses(self, BadSize, 11, grown, home, 0, 10, 0)
        refuses(self, BadSize, 11, grown, home, 9, 10, 99)
        refuses(self, BadHand, 11, grown, home, 9, 11, 0)
        self.assertEqual(grown(home, 1, 2, 1)[0].parts, (tuple(range(9)), (9,)))
        self.assertEqual(grown(house(9, (), ()), 8, 9, 0)[0].n, 10)

    def test_hands(self):
        for odd in (-1, 3, -3, 10, 10 ** 30):
            refuses(self, BadHand, odd, grown, LINE, odd, 1, 0)
            refuses(self, BadHand, odd, grown, LINE, odd, odd, -1)
        for b in (0, 1, -1, 4, 10, 11, 10 ** 30, -10 ** 30):
            refuses(self, BadHand, b, grown, LINE, 1, b, 0)
        refuses(self, BadHand, 2, grown, LINE, 2, 2, 9)
        refuses(self, BadHand, 0, grown, full_house(), 0, 0, 0)

    def test_roads_that_are_there(self):
        for home in HOUSES:
            for i, (a, b) in enumerate(home.roads):
                refuses(self, BadRoad, i, grown, home, a, b, 0)
                refuses(self, BadRoad, i, grown, home, a, b, -1)

    def test_parts(self):
        for part in (-1, 3, -2, 10 ** 30):
            refuses(self, BadPart, part, grown, LINE, 0, 2, part)
        refuses(self, BadPart, 1, grown, BARE, 0, 1, 1)
        # The road (0, 2) makes no star with the other road, nor with a road of another piece.
        refuses(self, BadPart, 1, grown, PIECES, 0, 4, 1)
        refuses(self, BadPart, 0, grown, PIECES, 2, 4, 0)


class Moved(unittest.TestCase):
    def test_entries_go_where_their_parts_go(self):
        self.assertEqual(moved((5, 6, 7), (2, 0, 3), 4), (6, 0, 5, 7))
        self.assertEqual(moved((), (), 1), (0,))
        self.assertEqual(moved((), (), 0), ())
        self.assertEqual(moved((0, 10 ** 30), (1, 0), 2), (10 ** 30, 0))
        self.assertEqual(moved(many=3, parts_go=(2,), mark=(4,)), (0, 0, 4))
        plain(self, moved((5, 6, 7), (2, 0, 3), 4))

    def test_errors(self):
        for odd in ODD + (0, 3, "12", (1, "2"), (1, -1), (True, 1), (1, False), ((1, 2),), (1, (2,))):
            if type(odd) is tuple and all(type(entry) is int and entry >= 0 for entry in odd):
                refuses(self, BadMark, len(odd), moved, odd, (0,) * (len(odd) + 1), 9)
            else:
                refuses(self, BadMark, 0, moved, odd, (1, 0), 2)
        for mark in ((), (1,), (1, 2, 3), (1, 2, 3, 4)):
            refuses(self, BadMark, len(mark), moved, mark, (1, 0), 2)


if __name__ == "__main__":
    unittest.main()
