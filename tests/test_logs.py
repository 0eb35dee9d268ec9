"""[7] logs_of."""

import unittest

from starclocks.logs import logs_of
from starclocks.marks import marks
from tests.helper import BARE, HOUSES, LINE, MIXED, TRIANGLE, plain, some_histories


class LogsOf(unittest.TestCase):
    def test_example_a(self):
        self.assertEqual(logs_of(LINE, (0, 1, 0)), (
            ((1, (1, 0)), (1, (2, 1))),
            ((0, (1, 0)), (2, (1, 1)), (0, (2, 1))),
            ((1, (1, 1)),)))

    def test_a_triangle(self):
        self.assertEqual(logs_of(TRIANGLE, (0, 2, 1)), (
            ((1, (1,)), (2, (3,))), ((0, (1,)), (2, (2,))), ((1, (2,)), (0, (3,)))))

    def test_without_meetings(self):
        self.assertEqual(logs_of(LINE, ()), ((), (), ()))
        self.assertEqual(logs_of(BARE, ()), ((), (), ()))
        self.assertEqual(logs_of(LINE, (0,)), (((1, (1, 0)),), ((0, (1, 0)),), ()))

    def test_each_meeting_stands_in_the_logs_of_its_hands(self):
        for home in HOUSES:
            for history in some_histories(home):
                got = logs_of(home, history)
                self.assertEqual(len(got), home.n)
                for hand, log in enumerate(got):
                    expected = []
                    for road, mark in zip(history, marks(home, history)):
                        one, two = home.roads[road]
                        if hand in (one, two):
                            expected.append((one + two - hand, mark))
                    self.assertEqual(log, tuple(expected))

    def test_kinds_of_values(self):
        got = logs_of(history=(0, 3, 6), house=MIXED)
        plain(self, got)
        self.assertIs(type(got), tuple)


if __name__ == "__main__":
    unittest.main()
