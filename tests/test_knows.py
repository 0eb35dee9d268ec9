"""[24] known; [25] missing."""

import unittest

from starclocks.errors import BadHand
from starclocks.knows import known, missing
from starclocks.logs import logs_of
from starclocks.parts import house
from tests.helper import (BARE, HOUSES, LINE, ONE_STAR, PIECES, ROAD, TIED, all_houses, asks_right_logs, full_house,
                          marks_by_words, names_by_words, pasts, plain, refuses, some_histories, two_roads, within)

A = logs_of(LINE, (0, 1, 0))
EMPTY = ((), (), ())


def tables_by_words(home, history):
    """The tables, led on at each meeting as [24] says."""
    tables = [[(0,) * len(home.parts) for _ in range(home.n)] for _ in range(home.n)]
    for road, mark in zip(history, marks_by_words(home, history)):
        one, two = home.roads[road]
        both = [tuple(map(max, a, b)) for a, b in zip(tables[one], tables[two])]
        both[one] = both[two] = mark
        tables[one], tables[two] = list(both), list(both)
    return tuple(map(tuple, tables))


def last_marks(home, history):
    """The last mark of each hand, all 0 without a meeting."""
    found = [(0,) * len(home.parts)] * home.n
    for road, mark in zip(history, marks_by_words(home, history)):
        for hand in home.roads[road]:
            found[hand] = mark
    return found


class Known(unittest.TestCase):
    def test_the_example(self):
        both = ((2, 1), (2, 1), (1, 1))
        self.assertEqual(known(LINE, A), (both, both, ((1, 0), (1, 1), (1, 1))))

    def test_led_on_at_each_meeting(self):
        for home in HOUSES + (TIED, full_house()):
            for history in some_histories(home, longest=60):
                got = known(home, logs_of(home, history))
                plain(self, got)
                self.assertEqual(got, tables_by_words(home, history))

    def test_the_last_meeting_that_is_at_most_the_hands_last_mark(self):
        for home in HOUSES + (TIED, full_house()):
            for history in some_histories(home, longest=40):
                logs = logs_of(home, history)
                lasts = last_marks(home, history)
                for keeper, table in enumerate(known(home, logs)):
                    for hand, row in enumerate(table):
                        heard = [mark for _, mark in logs[hand] if within(mark, lasts[keeper])]
                        self.assertEqual(row, heard[-1] if heard else (0,) * len(home.parts))

    def test_what_was_heard_of_by_others(self):
        # Hand 0 meets 1, 1 meets 2: then 2 knows of 0 what 1 knew, and 0 does not know of it.
        logs = logs_of(LINE, (0, 0, 1, 0))
        self.assertEqual(known(LINE, logs)[2], ((2, 0), (2, 1), (2, 1)))
        self.assertEqual(known(LINE, logs)[0], ((3, 1), (3, 1), (2, 1)))

    def test_without_meetings(self):
        self.assertEqual(known(LINE, EMPTY), (((0, 0),) * 3,) * 3)
        self.assertEqual(known(BARE, EMPTY), (((),) * 3,) * 3)
        self.assertEqual(known(house(1, (), ()), ((),)), (((),),))
        # A hand without a meeting knows of none, and none of it.
        tables = known(LINE, logs_of(LINE, (0, 0)))
        self.assertEqual(tables[2], ((0, 0),) * 3)
        self.assertEqual(tables[0], ((2, 0), (2, 0), (0, 0)))

    def test_200_meetings_and_pieces_apart(self):
        tables = known(PIECES, two_roads(120, 80))
        self.assertEqual(tables[0], ((120, 0), (120, 0), (0, 0), (0, 0)))
        self.assertEqual(tables[3], ((0, 0), (0, 0), (0, 80), (0, 80)))

    def test_errors(self):
        asks_right_logs(self, known)
        self.assertEqual(known(logs=EMPTY, house=LINE), (((0, 0),) * 3,) * 3)


class Missing(unittest.TestCase):
    def test_the_example(self):
        self.assertEqual(missing(LINE, A, 2, 0), ((0, 2),))
        self.assertEqual(missing(LINE, A, 0, 2), ())

    def test_what_two_has_heard_of_and_one_has_not(self):
        ties = 0
        for home in HOUSES + (TIED, full_house()):
            for history in some_histories(home, longest=40):
                logs = logs_of(home, history)
                before = pasts(home, history)
                heard = [set() for _ in range(home.n)]
                for k, road in enumerate(history):
                    for hand in home.roads[road]:
                        heard[hand] = before[k] | {k}
                called = names_by_words(home, history)
                sums = list(map(sum, marks_by_words(home, history)))
                for one in range(home.n):
                    for two in range(home.n):
                        expected = sorted((sums[k], called[k]) for k in heard[two] - heard[one])
                        got = missing(home, logs, one, two)
                        plain(self, got)
                        self.assertEqual(got, tuple(name for _, name in expected))
                        ties += len({total for total, _ in expected}) < len(expected)
        self.assertGreater(ties, 50)

    def test_the_order(self):
        # (1, 1) has the lesser mark, though the greater name; then like sums by names.
        home = house(4, ((0, 1), (1, 2), (2, 3)), ((0,), (1,), (2,)))
        logs = logs_of(home, (2, 0, 0, 1))
        self.assertEqual(missing(home, logs, 3, 1), ((0, 1), (0, 2), (1, 1)))
        self.assertEqual(missing(home, logs, 0, 1), ((2, 1), (1, 1)))
        both = logs_of(home, (0, 2, 1))
        self.assertEqual(missing(home, both, 0, 2), ((2, 1), (1, 1)))
        self.assertEqual(missing(home, logs_of(home, (1, 0, 1)), 3, 2), ((1, 1), (0, 1), (1, 2)))

    def test_one_hand_and_itself(self):
        for home in all_houses():
            history = tuple(range(len(home.roads))) * 3
            for hand in range(home.n):
                self.assertEqual(missing(home, logs_of(home, history), hand, hand), ())

    def test_without_meetings(self):
        self.assertEqual(missing(LINE, EMPTY, 0, 2), ())
        logs = logs_of(ONE_STAR, (0, 0))
        self.assertEqual(missing(ONE_STAR, logs, 2, 1), ((0, 1), (0, 2)))
        self.assertEqual(missing(two=2, one=1, logs=logs, house=ONE_STAR), ())
        self.assertEqual(missing(ROAD, logs_of(ROAD, (0,) * 200), 0, 1), ())
        self.assertEqual(missing(PIECES, two_roads(2, 1), 3, 0), ((0, 1), (0, 2)))

    def test_errors(self):
        for odd in (-1, 3, -3, 10, 10 ** 30, -10 ** 30):
            refuses(self, BadHand, 0, missing, LINE, A, odd, 0)
            refuses(self, BadHand, 0, missing, LINE, A, odd, odd)
            refuses(self, BadHand, 1, missing, LINE, A, 0, odd)
        refuses(self, BadHand, 1, missing, LINE, A, 2, 3)
        asks_right_logs(self, missing, 0, 1)
        asks_right_logs(self, missing, -1, 99)


if __name__ == "__main__":
    unittest.main()
