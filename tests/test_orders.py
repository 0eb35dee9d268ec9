"""[12] orders_many, nth_order and order_rank."""

import unittest
from itertools import product
from math import comb
from random import Random

from starclocks.cuts import totals
from starclocks.errors import BadCount, BadCut, BadMeeting, TooMany
from starclocks.logs import logs_of
from starclocks.orders import nth_order, order_rank, orders_many
from tests.helper import (BARE, HOUSES, LINE, ODD, PIECES, ROAD, TIED, TRIANGLE, asks_cuts, asks_right_logs,
                          cuts_by_words, names_by_words, orders_by_words, plain, refuses, small_histories,
                          some_histories, two_roads)

A = logs_of(LINE, (0, 1, 0))
B = logs_of(PIECES, (0, 0, 1))
EMPTY = ((), (), ())
BIG = two_roads(49, 99)


class OrdersMany(unittest.TestCase):
    def test_the_examples(self):
        self.assertEqual(orders_many(LINE, A, (0, 0), (2, 1)), 1)
        self.assertEqual(orders_many(PIECES, B, (0, 0), (2, 1)), 3)
        self.assertEqual(orders_many(PIECES, B, (1, 0), (2, 1)), 2)

    def test_counts_all_orders(self):
        for home, history in small_histories(longest=6):
            logs = logs_of(home, history)
            called = names_by_words(home, history)
            cuts = cuts_by_words(home, history)
            chance = Random(len(cuts))
            for _ in range(12):
                low, high = chance.choice(cuts), chance.choice(cuts)
                low = tuple(map(min, low, high))
                between = [k for k, (q, i) in enumerate(called) if low[q] < i <= high[q]]
                got = orders_many(home, logs, low, high)
                self.assertIs(type(got), int)
                self.assertEqual(got, len(orders_by_words(home, history, between)))

    def test_low_and_high_alike(self):
        for home, history in small_histories(many=3):
            for cut in cuts_by_words(home, history):
                self.assertEqual(orders_many(home, logs_of(home, history), cut, cut), 1)
        self.assertEqual(orders_many(LINE, EMPTY, (0, 0), (0, 0)), 1)
        self.assertEqual(orders_many(BARE, EMPTY, (), ()), 1)

    def test_the_sum_over_the_cuts_with_k_meetings(self):
        for home, history in small_histories(longest=9, many=4):
            logs = logs_of(home, history)
            cuts = cuts_by_words(home, history)
            zeros, ends = (0,) * len(home.parts), totals(home, logs)
            all_orders = orders_many(home, logs, zeros, ends)
            for k in range(len(history) + 1):
                ways = [orders_many(home, logs, zeros, cut) * orders_many(home, logs, cut, ends)
                        for cut in cuts if sum(cut) == k]
                self.assertEqual(sum(ways), all_orders)

    def test_large_numbers(self):
        self.assertEqual(orders_many(PIECES, BIG, (0, 0), (49, 99)), comb(148, 49))
        self.assertEqual(orders_many(high=(49, 99), low=(9, 9), logs=BIG, house=PIECES), comb(130, 40))

    def test_5000_and_5001_cuts(self):
        history = (0,) * 49 + (2,) * 99
        self.assertEqual(orders_many(TIED, logs_of(TIED, history), (0, 0, 0), (49, 0, 99)), comb(148, 49))
        more = logs_of(TIED, history + (1,))
        refuses(self, TooMany, 5001, orders_many, TIED, more, (0, 0, 0), (49, 1, 99))
        # Only the cuts between both count.
        self.assertEqual(orders_many(TIED, more, (0, 0, 0), (49, 0, 99)), comb(148, 49))
        self.assertEqual(orders_many(TIED, more, (1, 0, 0), (49, 1, 99)), comb(147, 48))

    def test_near_cuts_of_logs_with_very_many_cuts(self):
        logs = two_roads(100, 100)
        refuses(self, TooMany, 5001, orders_many, PIECES, logs, (0, 0), (100, 100))
        self.assertEqual(orders_many(PIECES, logs, (50, 50), (60, 60)), comb(20, 10))
        self.assertEqual(orders_many(PIECES, logs, (0, 0), (100, 0)), 1)
        self.assertEqual(orders_many(PIECES, logs, (100, 98), (100, 100)), 1)

    def test_errors(self):
        asks_cuts(self, orders_many)
        # Low above high comes ahead of too many cuts, bad cuts as well.
        refuses(self, BadCut, 2, orders_many, PIECES, two_roads(100, 100), (1, 0), (0, 100))
        refuses(self, BadCut, 1, orders_many, PIECES, two_roads(100, 100), (0, 0), (100, 101))


class NthOrder(unittest.TestCase):
    def test_the_examples(self):
        self.assertEqual(nth_order(LINE, A, 0), (0, 1, 0))
        self.assertEqual([nth_order(PIECES, B, k) for k in range(3)], [(0, 0, 1), (0, 1, 0), (1, 0, 0)])

    def test_all_that_leave_the_logs_ascending(self):
        for home, history in small_histories(longest=6):
            logs = logs_of(home, history)
            orders = orders_by_words(home, history)
            many = orders_many(home, logs, (0,) * len(home.parts), totals(home, logs))
            self.assertEqual(many, len(orders))
            for k, order in enumerate(orders):
                got = nth_order(home, logs, k)
                plain(self, got)
                self.assertEqual(got, order)
                self.assertEqual(order_rank(home, logs, got), k)
            refuses(self, BadCount, many, nth_order, home, logs, many)

    def test_just_the_histories_that_leave_the_logs(self):
        for home in (LINE, PIECES, TRIANGLE, TIED):
            roads = range(len(home.roads))
            for history in some_histories(home, longest=5):
                logs = logs_of(home, history)
                left = [other for other in product(roads, repeat=len(history)) if logs_of(home, other) == logs]
                self.assertEqual([nth_order(home, logs, k) for k in range(len(left))], sorted(left))

    def test_large_numbers(self):
        many = comb(148, 49)
        self.assertEqual(nth_order(PIECES, BIG, 0), (0,) * 49 + (1,) * 99)
        self.assertEqual(nth_order(PIECES, BIG, many - 1), (1,) * 99 + (0,) * 49)
        for k in (1, many // 3, many // 2, many - 2):
            got = nth_order(PIECES, BIG, k)
            self.assertEqual(logs_of(PIECES, got), BIG)
            self.assertEqual(order_rank(PIECES, BIG, got), k)
        # Those that begin with road 0 stand first.
        self.assertEqual(nth_order(PIECES, BIG, comb(147, 48))[0], 1)
        self.assertEqual(nth_order(PIECES, BIG, comb(147, 48) - 1)[0], 0)
        refuses(self, BadCount, many, nth_order, PIECES, BIG, many)

    def test_without_meetings(self):
        self.assertEqual(nth_order(LINE, EMPTY, 0), ())
        self.assertEqual(nth_order(k=0, logs=EMPTY, house=BARE), ())
        refuses(self, BadCount, 1, nth_order, LINE, EMPTY, 1)

    def test_200_meetings(self):
        self.assertEqual(nth_order(LINE, logs_of(LINE, (0, 1) * 100), 0), (0, 1) * 100)

    def test_errors(self):
        for k in (-1, -10 ** 30, 1, 2, 10 ** 30):
            refuses(self, BadCount, k, nth_order, LINE, A, k)
        refuses(self, BadCount, 3, nth_order, PIECES, B, 3)
        # Below 0 comes ahead of too many cuts, above behind it.
        many = two_roads(100, 100)
        refuses(self, BadCount, -1, nth_order, PIECES, many, -1)
        refuses(self, TooMany, 5001, nth_order, PIECES, many, 0)
        refuses(self, TooMany, 5001, nth_order, PIECES, many, 10 ** 100)
        refuses(self, TooMany, 5001, nth_order, TIED, logs_of(TIED, (0,) * 49 + (2,) * 99 + (1,)), 0)
        asks_right_logs(self, nth_order, -1)
        asks_right_logs(self, nth_order, 0)


class OrderRank(unittest.TestCase):
    def test_the_examples(self):
        self.assertEqual(order_rank(LINE, A, (0, 1, 0)), 0)
        self.assertEqual(order_rank(PIECES, B, (1, 0, 0)), 2)

    def test_leads_to_the_order_again(self):
        for home in HOUSES:
            for history in some_histories(home, longest=14):
                logs = logs_of(home, history)
                got = order_rank(home, logs, history)
                self.assertIs(type(got), int)
                self.assertEqual(nth_order(home, logs, got), history)

    def test_without_meetings(self):
        self.assertEqual(order_rank(LINE, EMPTY, ()), 0)
        self.assertEqual(order_rank(history=(), logs=EMPTY, house=BARE), 0)

    def test_meetings_that_cannot_be_next(self):
        refuses(self, BadMeeting, 0, order_rank, LINE, A, (1, 0, 0))
        refuses(self, BadMeeting, 1, order_rank, LINE, A, (0, 0, 1))
        refuses(self, BadMeeting, 2, order_rank, LINE, A, (0, 1, 1))
        refuses(self, BadMeeting, 2, order_rank, PIECES, B, (1, 0, 1))
        # Behind all meetings no other one can come.
        refuses(self, BadMeeting, 3, order_rank, LINE, A, (0, 1, 0, 0))
        refuses(self, BadMeeting, 3, order_rank, LINE, A, (0, 1, 0, 1, 0))
        refuses(self, BadMeeting, 0, order_rank, LINE, EMPTY, (0,))
        refuses(self, BadMeeting, 0, order_rank, TIED, logs_of(TIED, (0, 0)), (2, 0))

    def test_histories_that_end_too_early(self):
        refuses(self, BadMeeting, 0, order_rank, LINE, A, ())
        refuses(self, BadMeeting, 1, order_rank, LINE, A, (0,))
        refuses(self, BadMeeting, 2, order_rank, LINE, A, (0, 1))
        refuses(self, BadMeeting, 2, order_rank, PIECES, B, (1, 0))

    def test_by_words(self):
        for home in (LINE, PIECES, TRIANGLE, TIED):
            for history in some_histories(home, longest=4):
                logs = logs_of(home, history)
                orders = orders_by_words(home, history)
                for other in product(range(len(home.roads)), repeat=min(4, len(history) + 1)):
                    if other in orders:
                        self.assertEqual(order_rank(home, logs, other), orders.index(other))
                        continue
                    good = max(k for k in range(len(other) + 1) if other[:k] in {order[:k] for order in orders})
                    refuses(self, BadMeeting, good, order_rank, home, logs, other)

    def test_errors_of_the_history(self):
        many = two_roads(100, 100)
        for logs in (B, many):
            refuses(self, TooMany, 201, order_rank, PIECES, logs, (0,) * 201)
            refuses(self, TooMany, 202, order_rank, PIECES, logs, ("x",) * 202)
            for odd in ODD + (2, -1, False):
                refuses(self, BadMeeting, 1, order_rank, PIECES, logs, (0, odd, odd))
                refuses(self, BadMeeting, 4, order_rank, PIECES, logs, (1, 1, 1, 1, odd))
        # They come ahead of too many cuts; what cannot be next comes behind.
        refuses(self, TooMany, 5001, order_rank, PIECES, many, ())
        refuses(self, TooMany, 5001, order_rank, PIECES, many, (0,) * 101)
        refuses(self, TooMany, 5001, order_rank, TIED, logs_of(TIED, (0,) * 49 + (2,) * 99 + (1,)), (1,))
        asks_right_logs(self, order_rank, ("x",) * 201)
        asks_right_logs(self, order_rank, ())

    def test_200_meetings(self):
        self.assertEqual(order_rank(ROAD, logs_of(ROAD, (0,) * 200), (0,) * 200), 0)


if __name__ == "__main__":
    unittest.main()
