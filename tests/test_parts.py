"""[2] Parts and houses, and what a House is equal to."""

import unittest
from itertools import combinations, permutations

from starclocks.errors import BadPart, BadRoad, BadSize
from starclocks.parts import House, house, is_parts, part_of
from tests.helper import ODD, refuses, webs

LINE = ((0, 1), (1, 2))
TRIANGLE = ((0, 1), (0, 2), (1, 2))
RING = ((0, 1), (0, 3), (1, 2), (2, 3))


def may_be_part(roads, part):
    """Whether the tuple of indexes is a star or a triangle."""
    hands = {hand for i in part for hand in roads[i]}
    common = [hand for hand in hands if all(hand in roads[i] for i in part)]
    return common != [] or (len(part) == 3 and len(hands) == 3)


def partings(items):
    """All ways to part a list, its parts ascending by their first items."""
    if not items:
        yield ()
        return
    first, rest = items[0], items[1:]
    for many in range(len(rest) + 1):
        for others in combinations(rest, many):
            left = [item for item in rest if item not in others]
            for more in partings(left):
                yield ((first,) + others,) + more


class Houses(unittest.TestCase):
    def both(self, n, roads, parts):
        """The House, and is_parts tells that there is one."""
        self.assertIs(is_parts(n, roads, parts), True)
        return house(n, roads, parts)

    def refused(self, what, n, roads, parts):
        refuses(self, BadPart, what, house, n, roads, parts)
        self.assertIs(is_parts(n, roads, parts), False)

    def test_the_line(self):
        for parts in (((0,), (1,)), ((0, 1),)):
            made = self.both(3, LINE, parts)
            self.assertEqual((made.n, made.roads, made.parts), (3, LINE, parts))
            self.assertIs(type(made), House)

    def test_triangles_and_stars(self):
        for parts in (((0, 1, 2),), ((0, 1), (2,)), ((0, 2), (1,)), ((0,), (1, 2)), ((0,), (1,), (2,))):
            self.both(3, TRIANGLE, parts)
        star = tuple((0, k) for k in range(1, 10))
        self.both(10, star, (tuple(range(9)),))
        self.both(10, star, ((0, 2, 4, 6, 8), (1, 3, 5, 7)))
        self.both(1, (), ())
        self.both(10, (), ())

    def test_a_triangle_is_just_three_roads_among_three_hands(self):
        roads = ((0, 1), (0, 2), (0, 3), (1, 2))
        self.both(4, roads, ((0, 1, 3), (2,)))
        self.refused(0, 4, roads, ((0, 1, 2, 3),))
        self.refused(0, 4, roads, ((0, 2, 3), (1,)))
        self.refused(0, 4, ((0, 1), (1, 2), (2, 3)), ((0, 1, 2),))
        self.refused(0, 6, ((0, 1), (2, 3), (4, 5)), ((0, 1, 2),))

    def test_neither_star_nor_triangle(self):
        self.refused(0, 4, RING, ((0, 3), (1, 2)))
        # Two roads across the ring, behind a part that is sound.
        self.refused(1, 4, ((0, 1), (0, 3), (1, 2), (2, 3)), ((0,), (1, 2), (3,)))
        self.refused(0, 4, RING, ((0, 1, 2, 3),))

    def test_entries_that_are_no_ascending_tuple_of_indexes(self):
        odd = [entry for entry in ODD if entry != (0,)]
        odd += [0, 2, (3, 2), (2, 2), (2, 4), (-1, 2), (-1,), (4,), (2, 3, 3), ("2",), (2, "3"), ("2", "3"),
                ((2,), (3,)), (2, (3,)), (2, ()), (10 ** 25,), (2, 10 ** 25)]
        for entry in odd:
            self.refused(0, 4, RING, (entry,))
            self.refused(1, 4, RING, ((0, 1), entry, (2, 3)))
            self.refused(2, 4, RING, ((0, 1), (2, 3), entry))

    def test_first_indexes_ascend(self):
        self.refused(1, 3, LINE, ((1,), (0,)))
        self.refused(2, 4, RING, ((0,), (2, 3), (1,)))
        self.refused(1, 4, RING, ((0, 1), (0, 1), (2, 3)))

    def test_a_road_in_two_parts(self):
        self.refused(1, 3, LINE, ((0, 1), (1,)))
        self.refused(1, 3, TRIANGLE, ((0, 1, 2), (2,)))
        self.refused(2, 3, TRIANGLE, ((0, 2), (1,), (2,)))
        self.refused(2, 4, RING, ((0, 1), (2, 3), (3,)))

    def test_a_road_in_no_part(self):
        self.refused(0, 3, LINE, ())
        self.refused(1, 3, LINE, ((0,),))
        self.refused(1, 3, LINE, ((1,),))
        self.refused(2, 4, RING, ((0,), (2, 3)))

    def test_a_bad_entry_is_ahead_of_a_road_in_no_part(self):
        self.refused(1, 4, RING, ((1,), "x"))
        self.refused(0, 4, RING, ((4,),))

    def test_the_first_bad_entry(self):
        self.refused(1, 4, RING, ((0, 1), (1,), "x"))
        self.refused(1, 4, RING, ((0, 1), "x", (1,)))
        self.refused(0, 1, (), ((0,),))
        self.refused(0, 1, (), ((),))
        self.refused(0, 1, (), ("",))

    def test_size_ahead_of_roads_ahead_of_parts(self):
        refuses(self, BadSize, 0, house, 0, ((1, 0),), ("x",))
        refuses(self, BadSize, 11, house, 11, ("x",), ("x",))
        refuses(self, BadSize, -3, house, -3, (), ())
        refuses(self, BadRoad, 1, house, 3, ((0, 1), "x"), ("x",))
        refuses(self, BadRoad, 0, house, 3, ((1, 0),), ())

    def test_by_name(self):
        made = house(parts=((0, 1),), roads=LINE, n=3)
        self.assertEqual(made, house(3, LINE, ((0, 1),)))
        self.assertIs(is_parts(parts=((0, 1),), roads=LINE, n=3), True)
        self.assertEqual(part_of(road=1, house=made), 0)

    def test_all_partings_of_small_webs(self):
        for n in (2, 3, 4):
            for roads in webs(n):
                for parts in partings(list(range(len(roads)))):
                    fits = all(may_be_part(roads, part) for part in parts)
                    self.assertIs(is_parts(n, roads, parts), fits)
                    if fits:
                        self.assertEqual(house(n, roads, parts).parts, parts)
                    else:
                        bad = min(i for i, part in enumerate(parts) if not may_be_part(roads, part))
                        refuses(self, BadPart, bad, house, n, roads, parts)

    def test_order_of_parts_matters(self):
        parts = ((0,), (1,), (2, 3))
        for turned in permutations(parts):
            self.assertIs(is_parts(4, RING, turned), turned == parts)


class IsParts(unittest.TestCase):
    def test_any_values(self):
        for odd in ODD + (0, 1, 2, 11, (0, 1)):
            self.assertIs(is_parts(odd, LINE, ((0, 1),)), False)
            self.assertIs(is_parts(3, odd, ((0,), (1,))), False)
            self.assertIs(is_parts(3, (odd,), ()), False)
            self.assertIs(is_parts(4, RING, odd), False)
            self.assertIs(is_parts(odd, odd, odd), False)

    def test_no_roads(self):
        self.assertIs(is_parts(3, (), ()), True)
        self.assertIs(is_parts(0, (), ()), False)
        self.assertIs(is_parts(11, (), ()), False)
        self.assertIs(is_parts(10, (), ()), True)
        self.assertIs(is_parts(3, "", ()), False)
        self.assertIs(is_parts(3, (), ""), False)

    def test_large_values(self):
        many = tuple((0, k) for k in range(30000))
        self.assertIs(is_parts(10, many, ()), False)
        self.assertIs(is_parts(3, LINE, (tuple(range(90000)),)), False)
        self.assertIs(is_parts(3, LINE, ((0,),) * 40000), False)


class PartOf(unittest.TestCase):
    def test_each_road(self):
        made = house(4, RING, ((0, 2), (1, 3)))
        self.assertEqual([part_of(made, road) for road in range(4)], [0, 1, 0, 1])
        self.assertIs(type(part_of(made, 0)), int)

    def test_no_index_of_a_road(self):
        made = house(4, RING, ((0, 2), (1, 3)))
        for road in (-1, 4, 5, 10 ** 30, -10 ** 30):
            refuses(self, BadRoad, road, part_of, made, road)
        refuses(self, BadRoad, 0, part_of, house(2, (), ()), 0)


class Alike(unittest.TestCase):
    def test_equal_to_one_made_alike(self):
        one = house(3, TRIANGLE, ((0, 1), (2,)))
        two = house(3, tuple(list(TRIANGLE)), ((0, 1), (2,)))
        self.assertIs(one == two, True)
        self.assertIs(one != two, False)
        self.assertIs(one == one, True)

    def test_each_attribute_counts(self):
        one = house(3, LINE, ((0, 1),))
        for other in (house(4, LINE, ((0, 1),)), house(3, ((0, 1), (0, 2)), ((0, 1),)), house(3, LINE, ((0,), (1,)))):
            self.assertIs(one == other, False)
            self.assertIs(one != other, True)

    def test_nothing_else(self):
        class Any:
            n, roads, parts = 3, LINE, ((0, 1),)

            def __eq__(self, other):
                return True

        one = house(3, LINE, ((0, 1),))
        for other in (3, None, "", (3, LINE, ((0, 1),)), LINE, Any()):
            self.assertIs(one == other, False)
            self.assertIs(one != other, True)

    def test_defined_in_the_class(self):
        self.assertIn("__eq__", vars(House))


if __name__ == "__main__":
    unittest.main()
