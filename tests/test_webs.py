"""[1] and [3]: webs, some_parts and two_sides."""

import unittest
from itertools import product

from starclocks.errors import BadRoad, BadSize
from starclocks.fewest import fewest
from starclocks.parts import house, is_parts
from starclocks.webs import some_parts, two_sides
from tests.helper import ODD, plain, refuses, webs


def full(n):
    return tuple((a, b) for a in range(n) for b in range(a + 1, n))


def greedy(n, roads):
    """some_parts, word by word."""
    left, parts = set(range(len(roads))), []
    while left:
        most = max(sum(hand in roads[i] for i in left) for hand in range(n))
        hand = min(h for h in range(n) if sum(h in roads[i] for i in left) == most)
        star = sorted(i for i in left if hand in roads[i])
        parts.append(tuple(star))
        left -= set(star)
    return tuple(sorted(parts, key=lambda part: part[0]))


def sides_by_trial(n, roads):
    """The first sides, as tuples are ordered: so the least hand of each piece has 0."""
    for sides in product((0, 1), repeat=n):
        if all(sides[a] != sides[b] for a, b in roads):
            return sides
    return None


class Webs(unittest.TestCase):
    """BadSize and BadRoad hold alike in all functions that take a web."""

    def calls(self):
        return (some_parts, two_sides, fewest, lambda n, roads: house(n, roads, ()),
                lambda n, roads: house(n, roads, ("x", 3)))

    def test_sizes(self):
        for call in self.calls():
            for n in (0, 11, -1, -10, 10 ** 30, -10 ** 30):
                refuses(self, BadSize, n, call, n, ())
                refuses(self, BadSize, n, call, n, ("x", (1, 0)))
        for n in range(1, 11):
            self.assertEqual(some_parts(n, ()), ())
            self.assertEqual(two_sides(n, ()), (0,) * n)
            self.assertEqual(fewest(n, ()), ((), ()))
            self.assertEqual(house(n, (), ()).n, n)

    def test_entries_that_are_no_road(self):
        odd = ODD + ((1, 0), (1, 1), (0, 3), (-1, 0), (-2, -1), (2, 10 ** 20), (0, 1, ()))
        for call in self.calls():
            for entry in odd:
                refuses(self, BadRoad, 0, call, 3, (entry,))
                refuses(self, BadRoad, 1, call, 3, ((0, 1), entry))
                refuses(self, BadRoad, 1, call, 3, ((0, 1), entry, (0, 1)))
            refuses(self, BadRoad, 0, call, 1, ((0, 1),))
            refuses(self, BadRoad, 0, call, 10, ((0, 10),))

    def test_roads_that_do_not_ascend(self):
        for call in self.calls():
            refuses(self, BadRoad, 1, call, 3, ((0, 1), (0, 1)))
            refuses(self, BadRoad, 1, call, 3, ((0, 2), (0, 1), (1, 0)))
            refuses(self, BadRoad, 2, call, 3, ((0, 1), (1, 2), (0, 2)))

    def test_the_first_bad_index_of_either_kind(self):
        for call in self.calls():
            refuses(self, BadRoad, 1, call, 4, ((0, 2), (0, 1), "x"))
            refuses(self, BadRoad, 1, call, 4, ((0, 2), "x", (0, 1)))

    def test_by_name(self):
        roads = ((0, 1), (1, 2))
        self.assertEqual(some_parts(roads=roads, n=3), ((0, 1),))
        self.assertEqual(two_sides(roads=roads, n=3), (0, 1, 0))


class SomeParts(unittest.TestCase):
    def test_plain_webs(self):
        self.assertEqual(some_parts(2, ((0, 1),)), ((0,),))
        self.assertEqual(some_parts(3, ((0, 1), (0, 2), (1, 2))), ((0, 1), (2,)))
        self.assertEqual(some_parts(4, ((0, 3), (1, 3), (2, 3))), ((0, 1, 2),))
        # Two pieces: a road, and a star of three that is made first but stands behind.
        self.assertEqual(some_parts(6, ((0, 1), (2, 3), (2, 4), (2, 5))), ((0,), (1, 2, 3)))

    def test_like_numbers_go_to_the_least_hand(self):
        # A ring of four: hands 0 and 3 have two roads each at first.
        self.assertEqual(some_parts(4, ((0, 1), (0, 3), (1, 2), (2, 3))), ((0, 1), (2, 3)))
        self.assertEqual(some_parts(4, ((0, 1), (1, 2), (2, 3))), ((0, 1), (2,)))
        # Hands 1 and 2 have three roads each.
        self.assertEqual(some_parts(6, ((0, 1), (1, 2), (1, 3), (2, 4), (2, 5))), ((0, 1, 2), (3, 4)))

    def test_roads_left_count_not_roads_at_first(self):
        # When hand 0 has its star, hands 1 to 3 have one road less than at first, hand 4 as many as at first.
        roads = ((0, 1), (0, 2), (0, 3), (0, 5), (1, 2), (3, 4), (4, 6))
        self.assertEqual(some_parts(7, roads), ((0, 1, 2, 3), (4,), (5, 6)))

    def test_parts_are_put_in_order(self):
        roads = ((0, 1), (0, 2), (1, 3), (1, 4), (1, 5))
        self.assertEqual(some_parts(6, roads), ((0, 2, 3, 4), (1,)))
        roads = ((0, 1), (2, 3), (3, 4), (3, 5))
        self.assertEqual(some_parts(6, roads), ((0,), (1, 2, 3)))

    def test_all_small_webs(self):
        for n in range(1, 6):
            for roads in webs(n):
                got = some_parts(n, roads)
                self.assertEqual(got, greedy(n, roads), roads)
                self.assertIs(is_parts(n, roads, got), True)

    def test_ten_hands_with_all_roads(self):
        roads = full(10)
        got = some_parts(10, roads)
        self.assertEqual(got, greedy(10, roads))
        self.assertEqual([len(part) for part in got], [9, 8, 7, 6, 5, 4, 3, 2, 1])
        plain(self, got)


class TwoSides(unittest.TestCase):
    def test_plain_webs(self):
        self.assertEqual(two_sides(1, ()), (0,))
        self.assertEqual(two_sides(2, ((0, 1),)), (0, 1))
        self.assertEqual(two_sides(4, ((0, 1), (0, 3), (1, 2), (2, 3))), (0, 1, 0, 1))
        self.assertIsNone(two_sides(3, ((0, 1), (0, 2), (1, 2))))
        self.assertIsNone(two_sides(5, ((0, 1), (0, 4), (1, 2), (2, 3), (3, 4))))

    def test_the_least_hand_of_each_piece_has_0(self):
        self.assertEqual(two_sides(7, ((0, 5), (1, 3), (2, 3), (2, 6))), (0, 0, 0, 1, 0, 1, 1))
        self.assertEqual(two_sides(5, ((1, 4),)), (0, 0, 0, 0, 1))

    def test_one_bad_piece_is_enough(self):
        self.assertIsNone(two_sides(6, ((0, 1), (3, 4), (3, 5), (4, 5))))

    def test_all_small_webs(self):
        for n in range(1, 6):
            for roads in webs(n):
                self.assertEqual(two_sides(n, roads), sides_by_trial(n, roads), roads)

    def test_kinds_of_values(self):
        plain(self, two_sides(10, ((0, 9), (8, 9))))


if __name__ == "__main__":
    unittest.main()
