"""[27] joined and common."""

import unittest
from itertools import product
from random import Random

from starclocks.copies import common, joined
from starclocks.errors import BadLogs, Parted, TooMany
from starclocks.logs import logs_of
from starclocks.logsjudge import fault, logs_right
from starclocks.parts import house
from tests.helper import (BARE, HOUSES, LINE, ONE_STAR, PIECES, ROAD, TIED, asks_right_logs, full_house, plain,
                          refuses, some_histories, two_roads, with_row)

A = logs_of(LINE, (0, 1, 0))
ONE = logs_of(LINE, (0, 1))
TWO = logs_of(LINE, (0, 0))
EMPTY = ((), (), ())
# A star of one part, in which a like row of an outer hand can be behind meetings of other hands.
STAR = house(4, ((0, 3), (1, 3), (2, 3)), ((0, 1, 2),))


def moment(chance, home, history):
    """A history of the meetings of some cut of a history: with each meeting all those ahead of it."""
    late = [False] * home.n
    found = []
    for road in history:
        one, two = home.roads[road]
        if late[one] or late[two] or chance.random() < 0.15:
            late[one] = late[two] = True
        else:
            found.append(road)
    return tuple(found)


def both_moments(longest=20):
    """Triples of a house and the logs of two moments of one history."""
    for home in HOUSES + (TIED, STAR):
        chance = Random(home.n)
        for history in some_histories(home, many=12, longest=longest):
            for _ in range(6):
                yield home, logs_of(home, moment(chance, home, history)), logs_of(home, moment(chance, home, history))


def parted_pairs(longest=12):
    """Triples of a house and the logs of two histories that begin alike and then part."""
    for home in HOUSES + (TIED, STAR):
        chance = Random(home.n)
        for history in [()] * 6 + list(some_histories(home, many=10, longest=longest)):
            for _ in range(4):
                many = len(home.roads)
                more = [tuple(chance.randrange(many) for _ in range(chance.randint(0, 4))) for _ in range(2)]
                yield home, logs_of(home, history + more[0]), logs_of(home, history + more[1])


def parted_at(one, two):
    """The first hand, and its first row, at which both have a row and these differ, or None."""
    for hand, (a, b) in enumerate(zip(one, two)):
        for index, (row, other) in enumerate(zip(a, b)):
            if row != other:
                return (hand, index)
    return None


class Joined(unittest.TestCase):
    def test_the_example(self):
        refuses(self, Parted, (1, 1), joined, LINE, ONE, TWO)
        refuses(self, Parted, (1, 1), joined, LINE, TWO, ONE)

    def test_two_moments_of_one_history(self):
        mixed = 0
        for home, one, two in both_moments():
            got = joined(home, one, two)
            plain(self, got)
            self.assertIsNone(fault(home, got))
            self.assertIs(logs_right(home, got), True)
            self.assertEqual(got, tuple(a if len(a) >= len(b) else b for a, b in zip(one, two)))
            self.assertEqual(got, joined(home, two, one))
            mixed += got not in (one, two)
        self.assertGreater(mixed, 50)

    def test_histories_that_part(self):
        seen = []
        for home, one, two in parted_pairs():
            at = parted_at(one, two)
            seen.append(at is None)
            if at is not None:
                refuses(self, Parted, at, joined, home, one, two)
                refuses(self, Parted, at, joined, home, two, one)
            else:
                got = joined(home, one, two)
                self.assertIs(logs_right(home, got), True)
                self.assertEqual(got, tuple(max(a, b, key=len) for a, b in zip(one, two)))
        self.assertGreater(seen.count(True), 50)
        self.assertGreater(seen.count(False), 50)

    def test_the_first_hand_and_its_first_row(self):
        home = house(4, ((0, 1), (1, 2), (2, 3)), ((0,), (1,), (2,)))
        one, two = logs_of(home, (2, 2, 0, 1)), logs_of(home, (2, 0, 0, 2, 1))
        self.assertEqual(parted_at(one, two), (1, 1))
        refuses(self, Parted, (1, 1), joined, home, one, two)
        # The hands 2 and 3 have met a second time in one alone.
        refuses(self, Parted, (2, 1), joined, home, logs_of(home, (2, 2)), logs_of(home, (2, 1)))
        refuses(self, Parted, (0, 0), joined, ONE_STAR, logs_of(ONE_STAR, (0,)), logs_of(ONE_STAR, (1, 0)))

    def test_one_with_itself_and_with_nothing(self):
        for home in HOUSES + (TIED, BARE, house(1, (), ()), full_house()):
            for history in [()] + list(some_histories(home) if home.roads else []):
                logs = logs_of(home, history)
                empty = ((),) * home.n
                self.assertEqual(joined(home, logs, logs), logs)
                self.assertEqual(joined(home, empty, logs), logs)
                self.assertEqual(joined(home, logs, empty), logs)

    def test_200_meetings_and_more(self):
        one, two = two_roads(120, 0), two_roads(0, 80)
        self.assertEqual(joined(PIECES, one, two), two_roads(120, 80))
        self.assertEqual(joined(two=two_roads(1, 80), one=two_roads(120, 7), house=PIECES), two_roads(120, 80))
        for many in (81, 100, 199, 200):
            refuses(self, TooMany, 120 + many, joined, PIECES, one, two_roads(0, many))
            refuses(self, TooMany, 120 + many, joined, PIECES, two_roads(0, many), one)
        # Two that differ are told ahead of too many meetings.
        home = house(5, ((0, 1), (2, 3), (3, 4)), ((0,), (1,), (2,)))
        one, two = logs_of(home, (0,) * 150 + (1,) * 50), logs_of(home, (1,) * 50 + (2,) * 150)
        self.assertEqual(joined(home, one, logs_of(home, (1,) * 50)), one)
        refuses(self, TooMany, 350, joined, home, one, two)
        refuses(self, Parted, (3, 49), joined, home, one, logs_of(home, (1,) * 49 + (2,) * 150))

    def test_errors(self):
        asks_right_logs(self, lambda home, logs: joined(home, logs, logs))
        asks_right_logs(self, lambda home, logs: joined(home, logs, ((),) * home.n))
        asks_right_logs(self, lambda home, logs: joined(home, ((),) * home.n, logs))
        asks_both(self, joined)


def asks_both(test, call):
    """The call refuses one ahead of two, and both ahead of all else."""
    spoilt = with_row(A, 2, 0, (1, (1, 2)))
    refuses(test, BadLogs, (1, 1, 1), call, LINE, spoilt, with_row(A, 2, 0, "x"))
    refuses(test, BadLogs, (2, 0, 0), call, LINE, with_row(A, 2, 0, "x"), spoilt)
    refuses(test, BadLogs, (1, 1, 1), call, LINE, TWO, spoilt)
    refuses(test, BadLogs, (2, 0, 1), call, LINE, TWO, EMPTY[:2] + (ONE[2],))
    refuses(test, TooMany, 201, call, PIECES, two_roads(101, 100), two_roads(200, 200))
    refuses(test, TooMany, 400, call, PIECES, two_roads(101, 99), two_roads(200, 200))
    refuses(test, TooMany, 201, call, PIECES, two_roads(101, 100), with_row(two_roads(1, 1), 2, 0, "x"))
    refuses(test, BadLogs, (2, 0, 0), call, PIECES, two_roads(1, 1), with_row(two_roads(200, 200), 2, 0, "x"))


class Common(unittest.TestCase):
    def test_the_example(self):
        self.assertEqual(common(LINE, ONE, TWO), logs_of(LINE, (0,)))
        self.assertEqual(common(LINE, TWO, ONE), logs_of(LINE, (0,)))

    def test_the_greatest_right_logs_that_begin_both(self):
        seen = set()
        for pairs in (both_moments(longest=6), parted_pairs(longest=4)):
            for home, one, two in pairs:
                alike = [[k for k in range(min(len(a), len(b)) + 1) if a[:k] == b[:k]] for a, b in zip(one, two)]
                right = [rows for rows in product(*alike)
                         if logs_right(home, tuple(log[:many] for log, many in zip(one, rows)))]
                most = tuple(map(max, *right)) if len(right) > 1 else right[0]
                self.assertIn(most, right)
                got = common(home, one, two)
                plain(self, got)
                self.assertEqual(got, tuple(log[:many] for log, many in zip(one, most)))
                self.assertEqual(got, common(home, two, one))
                seen.add((sum(most) > 0, most == tuple(a[-1] for a in alike)))
        self.assertEqual(len(seen), 4)

    def test_of_two_moments(self):
        # The meetings of both moments are just those that are common.
        for home, one, two in both_moments(longest=60):
            got = common(home, one, two)
            self.assertIs(logs_right(home, got), True)
            for a, b, log in zip(one, two, got):
                self.assertEqual(log, min(a, b, key=len))

    def test_one_with_itself_and_with_nothing(self):
        for home in HOUSES + (TIED, BARE, house(1, (), ()), full_house()):
            for history in [()] + list(some_histories(home) if home.roads else []):
                logs = logs_of(home, history)
                empty = ((),) * home.n
                self.assertEqual(common(home, logs, logs), logs)
                self.assertEqual(common(home, empty, logs), empty)
                self.assertEqual(common(home, logs, empty), empty)

    def test_200_meetings(self):
        self.assertEqual(common(PIECES, two_roads(120, 80), two_roads(100, 100)), two_roads(100, 80))
        one = logs_of(ROAD, (0,) * 200)
        self.assertEqual(common(two=one, one=logs_of(ROAD, (0,) * 150), house=ROAD), logs_of(ROAD, (0,) * 150))

    def test_rows_alike_that_are_no_cut(self):
        # The row of hand 2 is alike in both, but ahead of it hand 3 has met others.
        one, two = logs_of(STAR, (0, 2)), logs_of(STAR, (1, 2))
        self.assertEqual(one[2], two[2])
        self.assertEqual(common(STAR, one, two), ((),) * 4)
        one, two = logs_of(STAR, (1, 1, 0, 2)), logs_of(STAR, (1, 1, 1, 2))
        self.assertEqual(one[2], two[2])
        self.assertEqual(common(STAR, one, two), logs_of(STAR, (1, 1)))
        refuses(self, Parted, (3, 2), joined, STAR, one, two)

    def test_errors(self):
        asks_right_logs(self, lambda home, logs: common(home, logs, logs))
        asks_right_logs(self, lambda home, logs: common(home, logs, ((),) * home.n))
        asks_right_logs(self, lambda home, logs: common(home, ((),) * home.n, logs))
        asks_both(self, common)


if __name__ == "__main__":
    unittest.main()
