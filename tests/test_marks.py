"""[5] marks, names and hand_marks."""

import unittest

from starclocks.marks import hand_marks, marks, names
from tests.helper import (BARE, HOUSES, LINE, MIXED, ONE_STAR, PIECES, TRIANGLE, full_house, part_at, pasts, plain,
                          some_histories)


class Marks(unittest.TestCase):
    def test_the_examples(self):
        self.assertEqual(marks(LINE, (0, 1, 0)), ((1, 0), (1, 1), (2, 1)))
        self.assertEqual(names(LINE, (0, 1, 0)), ((0, 1), (1, 1), (0, 2)))
        self.assertEqual(marks(ONE_STAR, (0, 1, 0)), ((1,), (2,), (3,)))
        self.assertEqual(marks(TRIANGLE, (0, 2, 1)), ((1,), (2,), (3,)))

    def test_pieces(self):
        self.assertEqual(marks(PIECES, (0, 0, 1)), ((1, 0), (2, 0), (0, 1)))
        self.assertEqual(names(PIECES, (0, 0, 1)), ((0, 1), (0, 2), (1, 1)))
        self.assertEqual(hand_marks(PIECES, (0, 0, 1)), ((2, 0), (2, 0), (0, 1), (0, 1)))

    def test_the_empty_history(self):
        for home in HOUSES:
            self.assertEqual(marks(home, ()), ())
            self.assertEqual(names(home, ()), ())
            self.assertEqual(hand_marks(home, ()), ((0,) * len(home.parts),) * home.n)
        self.assertEqual(hand_marks(BARE, ()), ((), (), ()))

    def test_hands_that_had_no_meeting(self):
        self.assertEqual(hand_marks(LINE, (0, 0)), ((2, 0), (2, 0), (0, 0)))
        self.assertEqual(hand_marks(MIXED, (3, 0))[5:], ((0, 0, 0),) * 3)

    def test_entries_count_the_meetings_ahead(self):
        for home in HOUSES + (full_house(),):
            for history in some_histories(home, longest=60):
                got = marks(home, history)
                self.assertEqual(len(got), len(history))
                for i, before in enumerate(pasts(home, history)):
                    counted = [0] * len(home.parts)
                    for j in before | {i}:
                        counted[part_at(home, history[j])] += 1
                    self.assertEqual(got[i], tuple(counted))

    def test_clocks_are_the_last_marks(self):
        for home in HOUSES:
            for history in some_histories(home):
                last = [(0,) * len(home.parts)] * home.n
                for road, mark in zip(history, marks(home, history)):
                    for hand in home.roads[road]:
                        last[hand] = mark
                self.assertEqual(hand_marks(home, history), tuple(last))

    def test_meetings_of_a_part_are_numbered_from_1_on(self):
        for home in HOUSES:
            for history in some_histories(home):
                seen, expected = {}, []
                for road in history:
                    part = part_at(home, road)
                    seen[part] = seen.get(part, 0) + 1
                    expected.append((part, seen[part]))
                self.assertEqual(names(home, history), tuple(expected))

    def test_kinds_of_values(self):
        for call in (marks, names, hand_marks):
            got = call(MIXED, (0, 3, 6, 2))
            plain(self, got)
            self.assertIs(type(got), tuple)
            self.assertEqual(call(history=(0, 3, 6, 2), house=MIXED), got)


if __name__ == "__main__":
    unittest.main()
