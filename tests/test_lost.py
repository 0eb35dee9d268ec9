"""[15] kept_logs and what is refused as kept; [16] whole_again."""

import unittest
from random import Random

from starclocks.errors import BadHand, BadLogs
from starclocks.logs import logs_of
from starclocks.lost import kept_logs, whole_again
from tests.helper import (BARE, LINE, NO_LOST, PIECES, ROAD, TRIANGLE, asks_kept, asks_right_logs, lost_cases, plain,
                          refuses, spoilt, two_roads)

A = logs_of(LINE, (0, 1, 0))
EMPTY = ((), (), ())


def kept_fault_by_words(home, kept, lost):
    """What BadLogs tells of kept logs, word by word; None if they are not refused."""
    places = [(hand, index) for hand, log in enumerate(kept) for index in range(len(log))]
    for hand, index in places:
        row = kept[hand][index]
        if hand in lost:
            return (hand, 0, 0)
        if type(row) is not tuple or len(row) != 2 or type(row[0]) is not int:
            return (hand, index, 0)
        if (min(hand, row[0]), max(hand, row[0])) not in home.roads:
            return (hand, index, 0)
        if type(row[1]) is not tuple or len(row[1]) != len(home.parts):
            return (hand, index, 0)
        if any(type(entry) is not int or not 0 <= entry <= 200 for entry in row[1]):
            return (hand, index, 0)
    for hand, index in places:
        mate, mark = kept[hand][index]
        if mate not in lost and kept[mate].count((hand, mark)) != 1:
            return (hand, index, 1)
        if mate not in lost and kept[hand].count((mate, mark)) > 1:
            return (hand, index, 2)
        if index > 0:
            elder = kept[hand][index - 1][1]
            if elder == mark or any(a > b for a, b in zip(elder, mark)):
                return (hand, index, 3)
    return None


class KeptLogs(unittest.TestCase):
    def test_the_example(self):
        self.assertEqual(kept_logs(LINE, A, (0, 1)), ((), (), ((1, (1, 1)),)))

    def test_lost_logs_are_empty_and_all_others_as_they_were(self):
        for home, _, logs, lost, kept in lost_cases():
            got = kept_logs(home, logs, lost)
            plain(self, got)
            self.assertEqual(got, kept)

    def test_none_and_all(self):
        self.assertEqual(kept_logs(LINE, A, ()), A)
        self.assertEqual(kept_logs(lost=(0, 1, 2), logs=A, house=LINE), EMPTY)
        self.assertEqual(kept_logs(BARE, EMPTY, (0, 2)), EMPTY)

    def test_200_meetings(self):
        logs = two_roads(100, 100)
        self.assertEqual(kept_logs(PIECES, logs, (0, 3)), ((), logs[1], logs[2], ()))

    def test_errors(self):
        for lost, what in NO_LOST:
            refuses(self, BadHand, what, kept_logs, LINE, A, lost)
            # Here logs are asked ahead of lost.
            asks_right_logs(self, kept_logs, lost)
        asks_right_logs(self, kept_logs, (0,))


class WholeAgain(unittest.TestCase):
    def test_the_example(self):
        self.assertEqual(whole_again(LINE, ((), (), ((1, (1, 1)),)), (0, 1)), ((), ((2, (1, 1)),)))

    def test_the_rows_with_kept_mates_in_their_order(self):
        for home, _, logs, lost, kept in lost_cases(longest=25):
            got = whole_again(home, kept, lost)
            plain(self, got)
            self.assertEqual(got, tuple(tuple(row for row in logs[hand] if row[0] not in lost) for hand in lost))

    def test_several_mates_by_turns(self):
        history = (0, 2, 1, 0, 1, 2, 0)
        logs = logs_of(TRIANGLE, history)
        self.assertEqual(whole_again(TRIANGLE, ((),) + logs[1:], (0,)), (logs[0],))
        logs = logs_of(LINE, (0, 1, 1, 0, 1))
        self.assertEqual(whole_again(lost=(1,), kept=(logs[0], (), logs[2]), house=LINE), (logs[1],))

    def test_the_least_mate_does_not_stand_first(self):
        logs = logs_of(LINE, (1, 0))
        self.assertEqual(whole_again(LINE, (logs[0], (), logs[2]), (1,)), (((2, (0, 1)), (0, (1, 1))),))

    def test_none_and_all(self):
        self.assertEqual(whole_again(LINE, A, ()), ())
        self.assertEqual(whole_again(LINE, EMPTY, (0, 1, 2)), EMPTY)
        self.assertEqual(whole_again(LINE, EMPTY, (1,)), ((),))
        self.assertEqual(whole_again(BARE, EMPTY, (0, 1)), ((), ()))

    def test_200_meetings(self):
        logs = logs_of(ROAD, (0,) * 200)
        self.assertEqual(whole_again(ROAD, (logs[0], ()), (1,)), (logs[1],))

    def test_errors(self):
        asks_kept(self, whole_again)

    def test_a_row_three_times(self):
        row, twin = (1, (1, 0)), (0, (1, 0))
        refuses(self, BadLogs, (0, 0, 2), whole_again, LINE, ((row,) * 3, (twin,), ()), (2,))
        refuses(self, BadLogs, (0, 0, 1), whole_again, LINE, ((row,) * 3, (twin,) * 2, ()), (2,))

    def test_spoilt_kept_logs(self):
        seen = set()
        chance = Random(6)
        for home, _, _, lost, kept in lost_cases(many=4):
            for _ in range(3):
                other = spoilt(chance, home, kept)
                if chance.random() < 0.1:
                    other = tuple(log or (("x", 7) if chance.random() < 0.2 else ()) for log in other)
                expected = kept_fault_by_words(home, other, lost)
                if expected is not None:
                    seen.add(expected[2])
                    refuses(self, BadLogs, expected, whole_again, home, other, lost)
        self.assertEqual(seen, {0, 1, 2, 3})

    def test_what_is_kept_is_never_refused(self):
        for home, _, _, lost, kept in lost_cases():
            self.assertIsNone(kept_fault_by_words(home, kept, lost))
            whole_again(home, kept, lost)


if __name__ == "__main__":
    unittest.main()
