"""[9] history_of; [8] the errors of logs that are not right; [0.3] (b)."""

import unittest

from starclocks.logs import logs_of
from starclocks.marks import marks
from starclocks.merged import history_of
from tests.helper import (BARE, HOUSES, LINE, ONE_STAR, PIECES, ROAD, TRIANGLE, asks_right_logs, full_house,
                          orders_by_words, plain, small_histories, some_histories, two_roads)


class HistoryOf(unittest.TestCase):
    def test_example_a(self):
        self.assertEqual(history_of(LINE, logs_of(LINE, (0, 1, 0))), (0, 1, 0))

    def test_example_b(self):
        self.assertEqual(history_of(PIECES, logs_of(PIECES, (0, 0, 1))), (0, 1, 0))
        self.assertEqual(history_of(PIECES, logs_of(PIECES, (1, 0, 0))), (0, 1, 0))

    def test_equal_sums_stand_by_roads(self):
        self.assertEqual(history_of(PIECES, logs_of(PIECES, (1, 1, 0, 1, 0))), (0, 1, 0, 1, 1))
        self.assertEqual(history_of(PIECES, logs_of(PIECES, (1, 0))), (0, 1))

    def test_sums_stand_ahead_of_roads(self):
        # The meeting on the lesser road has the greater sum.
        self.assertEqual(history_of(LINE, logs_of(LINE, (1, 0))), (1, 0))
        self.assertEqual(history_of(TRIANGLE, logs_of(TRIANGLE, (2, 1, 0))), (2, 1, 0))

    def test_without_meetings(self):
        self.assertEqual(history_of(BARE, ((), (), ())), ())
        self.assertEqual(history_of(LINE, ((), (), ())), ())

    def test_leaves_the_same_logs_and_stands_by_sums_and_roads(self):
        for home in HOUSES + (full_house(),):
            for history in some_histories(home, longest=60):
                logs = logs_of(home, history)
                got = history_of(home, logs)
                plain(self, got)
                self.assertEqual(logs_of(home, got), logs)
                keys = [(sum(mark), road) for mark, road in zip(marks(home, got), got)]
                self.assertEqual(keys, sorted(keys))
                self.assertEqual(history_of(house=home, logs=logs), got)

    def test_is_one_of_the_orders(self):
        for home, history in small_histories():
            got = history_of(home, logs_of(home, history))
            self.assertIn(got, orders_by_words(home, history))

    def test_200_meetings(self):
        history = (0,) * 200
        self.assertEqual(history_of(ROAD, logs_of(ROAD, history)), history)
        self.assertEqual(history_of(PIECES, two_roads(100, 100)), (0, 1) * 100)

    def test_logs_that_are_not_right(self):
        asks_right_logs(self, history_of)

    def test_one_star(self):
        history = (0, 1, 1, 0)
        self.assertEqual(history_of(ONE_STAR, logs_of(ONE_STAR, history)), history)


if __name__ == "__main__":
    unittest.main()
