"""[3] fewest."""

import unittest
from itertools import combinations

from starclocks.errors import BadRoad, BadSize, NotTwoSided
from starclocks.fewest import fewest
from starclocks.parts import house
from starclocks.webs import two_sides
from tests.helper import plain, refuses, webs


def fewest_hubs(n, roads):
    """How many hands are needed so that each road has one of them, by trial."""
    for many in range(n + 1):
        for hubs in combinations(range(n), many):
            if all(a in hubs or b in hubs for a, b in roads):
                return many
    return None


class Fewest(unittest.TestCase):
    def sound(self, n, roads):
        parts, pairs = fewest(n, roads)
        plain(self, (parts, pairs))
        house(n, roads, parts)
        self.assertEqual(len(parts), len(pairs))
        self.assertEqual(pairs, tuple(sorted(pairs)))
        for pair in pairs:
            self.assertIn(pair, roads)
        hands = [hand for pair in pairs for hand in pair]
        self.assertEqual(len(hands), len(set(hands)))
        return len(parts)

    def test_the_example(self):
        self.assertEqual(self.sound(5, ((0, 2), (0, 3), (1, 2), (3, 4))), 2)

    def test_plain_webs(self):
        self.assertEqual(fewest(1, ()), ((), ()))
        self.assertEqual(fewest(10, ()), ((), ()))
        self.assertEqual(fewest(2, ((0, 1),)), (((0,),), ((0, 1),)))
        self.assertEqual(fewest(4, ((0, 3), (1, 3), (2, 3)))[0], ((0, 1, 2),))
        self.assertEqual(fewest(4, ((0, 1), (2, 3))), (((0,), (1,)), ((0, 1), (2, 3))))
        self.assertEqual(self.sound(4, ((0, 1), (0, 3), (1, 2), (2, 3))), 2)

    def test_some_parts_would_be_more(self):
        # A hand with three mates, each of which has a hand of its own: the first star is not needed.
        roads = ((0, 1), (0, 2), (0, 3), (1, 4), (2, 5), (3, 6))
        self.assertEqual(self.sound(7, roads), 3)

    def test_all_small_webs(self):
        for n in range(1, 6):
            for roads in webs(n):
                if two_sides(n, roads) is None:
                    refuses(self, NotTwoSided, 0, fewest, n, roads)
                else:
                    self.assertEqual(self.sound(n, roads), fewest_hubs(n, roads), roads)

    def test_ten_hands(self):
        full = tuple((a, b) for a in range(5) for b in range(5, 10))
        self.assertEqual(self.sound(10, full), 5)
        for step in range(1, 200):
            # Some roads between the even and the odd hands, by a fixed rule.
            roads = tuple((a, b) for a in range(10) for b in range(a + 1, 10)
                          if (b - a) & 1 and (a * 7 + b * 13 + step * (a + b)) * step % 11 < 3)
            self.assertEqual(self.sound(10, roads), fewest_hubs(10, roads), roads)

    def test_errors_of_the_web_come_first(self):
        refuses(self, BadSize, 0, fewest, 0, ((0, 1), (0, 2), (1, 2)))
        refuses(self, BadSize, 11, fewest, 11, ())
        refuses(self, BadRoad, 3, fewest, 3, ((0, 1), (0, 2), (1, 2), (1, 2)))
        refuses(self, BadRoad, 3, fewest, 4, ((0, 1), (0, 2), (1, 2), "x"))
        refuses(self, NotTwoSided, 0, fewest, 3, ((0, 1), (0, 2), (1, 2)))

    def test_by_name(self):
        self.assertEqual(fewest(roads=((0, 1),), n=2), (((0,),), ((0, 1),)))


if __name__ == "__main__":
    unittest.main()
