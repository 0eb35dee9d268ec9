"""[10] totals, is_cut and cut_rows."""

import unittest
from itertools import product
from random import Random

from starclocks.cuts import cut_rows, is_cut, totals
from starclocks.errors import BadCut
from starclocks.logs import logs_of
from tests.helper import (BARE, HOUSES, LINE, MIXED, ODD, PIECES, ROAD, TRIANGLE, asks_right_logs, cuts_by_words,
                          marks_by_words, names_by_words, plain, refuses, small_histories, some_histories,
                          totals_by_words, two_roads, with_row)

A = logs_of(LINE, (0, 1, 0))


class Totals(unittest.TestCase):
    def test_example_a(self):
        self.assertEqual(totals(LINE, A), (2, 1))

    def test_counts_the_meetings_of_each_part(self):
        for home in HOUSES:
            for history in some_histories(home):
                got = totals(home, logs_of(home, history))
                plain(self, got)
                self.assertEqual(got, totals_by_words(home, history))

    def test_without_meetings(self):
        self.assertEqual(totals(LINE, ((), (), ())), (0, 0))
        self.assertEqual(totals(BARE, ((), (), ())), ())

    def test_200_meetings(self):
        self.assertEqual(totals(PIECES, two_roads(100, 100)), (100, 100))
        self.assertEqual(totals(logs=two_roads(200, 0), house=PIECES), (200, 0))

    def test_logs_that_are_not_right(self):
        asks_right_logs(self, totals)


class IsCut(unittest.TestCase):
    def test_example_a(self):
        cuts = [cut for cut in product(range(-1, 4), repeat=2) if is_cut(LINE, A, cut)]
        self.assertEqual(cuts, [(0, 0), (1, 0), (1, 1), (2, 1)])

    def test_just_what_has_all_that_is_ahead(self):
        for home, history in small_histories():
            logs = logs_of(home, history)
            found = []
            for cut in product(*[range(-1, total + 2) for total in totals_by_words(home, history)]):
                got = is_cut(home, logs, cut)
                self.assertIs(type(got), bool)
                if got:
                    found.append(cut)
            self.assertEqual(found, cuts_by_words(home, history))

    def test_the_entrywise_least_and_greatest_are_cuts(self):
        chance = Random(1)
        for home, history in small_histories():
            logs = logs_of(home, history)
            cuts = cuts_by_words(home, history)
            for many in (2, 2, 3):
                some = [chance.choice(cuts) for _ in range(many)]
                self.assertIs(is_cut(home, logs, tuple(map(min, *some))), True)
                self.assertIs(is_cut(home, logs, tuple(map(max, *some))), True)

    def test_without_meetings(self):
        self.assertIs(is_cut(LINE, ((), (), ()), (0, 0)), True)
        self.assertIs(is_cut(LINE, ((), (), ()), (0, 1)), False)
        self.assertIs(is_cut(BARE, ((), (), ()), ()), True)
        self.assertIs(is_cut(BARE, ((), (), ()), (0,)), False)

    def test_values_of_any_form(self):
        for odd in ODD + (0, 3, (0, 0, 0), (0, "0"), ("1", "1"), ((), ()), (0, -1), (-1, 0), (10 ** 30, 0), (False, 0),
                          (True, 0), (1, True), (1, False), "00", ((0, 0),)):
            self.assertIs(is_cut(LINE, A, odd), False)
            self.assertIs(is_cut(LINE, odd, (0, 0)), False)
            self.assertIs(is_cut(LINE, odd, odd), False)
            self.assertIs(is_cut(LINE, with_row(A, 2, 0, odd), (0, 0)), False)
        self.assertIs(is_cut(ROAD, ((), ()), "0"), False)
        self.assertIs(is_cut(BARE, ((), (), ()), ""), False)

    def test_logs_that_are_not_right(self):
        self.assertIs(is_cut(LINE, with_row(A, 2, 0, (1, (1, 2))), (0, 0)), False)
        self.assertIs(is_cut(PIECES, two_roads(101, 100), (0, 0)), False)
        self.assertIs(is_cut(cut=(100, 100), logs=two_roads(100, 100), house=PIECES), True)


class CutRows(unittest.TestCase):
    def test_example_a(self):
        self.assertEqual(cut_rows(LINE, A, (1, 1)), (1, 2, 1))
        self.assertEqual(cut_rows(LINE, A, (0, 0)), (0, 0, 0))
        self.assertEqual(cut_rows(LINE, A, (1, 0)), (1, 1, 0))
        self.assertEqual(cut_rows(LINE, A, (2, 1)), (2, 3, 1))

    def test_counts_the_meetings_of_each_hand_in_the_cut(self):
        for home, history in small_histories():
            logs = logs_of(home, history)
            called = names_by_words(home, history)
            for cut in cuts_by_words(home, history):
                inside = [home.roads[road] for road, (q, i) in zip(history, called) if i <= cut[q]]
                got = cut_rows(home, logs, cut)
                plain(self, got)
                self.assertEqual(got, tuple(sum(hand in road for road in inside) for hand in range(home.n)))

    def test_without_meetings(self):
        self.assertEqual(cut_rows(LINE, ((), (), ()), (0, 0)), (0, 0, 0))
        self.assertEqual(cut_rows(house=BARE, cut=(), logs=((), (), ())), (0, 0, 0))

    def test_how_many_entries(self):
        for cut in ((), (0,), (0, 0, 0), (9, 9, 9, 9)):
            refuses(self, BadCut, len(cut), cut_rows, LINE, A, cut)
        refuses(self, BadCut, 1, cut_rows, BARE, ((), (), ()), (0,))

    def test_entries_that_are_not_from_0_to_the_total(self):
        refuses(self, BadCut, 0, cut_rows, LINE, A, (-1, 0))
        refuses(self, BadCut, 0, cut_rows, LINE, A, (3, 1))
        refuses(self, BadCut, 1, cut_rows, LINE, A, (2, 2))
        refuses(self, BadCut, 1, cut_rows, LINE, A, (2, -1))
        refuses(self, BadCut, 0, cut_rows, LINE, A, (10 ** 30, -10 ** 30))
        # The entry of part 0 has a mark above the cut, but that is asked behind all entries.
        refuses(self, BadCut, 1, cut_rows, LINE, A, (2, 9))
        refuses(self, BadCut, 1, cut_rows, LINE, A, (2, -1))

    def test_marks_above_the_cut(self):
        refuses(self, BadCut, 0, cut_rows, LINE, A, (2, 0))
        refuses(self, BadCut, 1, cut_rows, LINE, A, (0, 1))
        # Both entries have a mark above the cut: the first one is told.
        three = logs_of(LINE, (0, 1, 0, 1))
        refuses(self, BadCut, 1, cut_rows, LINE, three, (1, 2))
        refuses(self, BadCut, 0, cut_rows, LINE, three, (2, 0))

    def test_refuses_just_what_is_no_cut(self):
        logs = logs_of(MIXED, (3, 6, 4, 0, 5, 2, 6, 3))
        for cut in product(range(6), range(6), range(6)):
            if is_cut(MIXED, logs, cut):
                cut_rows(MIXED, logs, cut)
            else:
                self.assertRaises(BadCut, cut_rows, MIXED, logs, cut)

    def test_the_first_of_several_above(self):
        for home, history in small_histories(many=4):
            logs = logs_of(home, history)
            mark_at = dict(zip(names_by_words(home, history), marks_by_words(home, history)))
            for cut in product(*[range(total + 1) for total in totals_by_words(home, history)]):
                bad = [q for q, i in enumerate(cut) if i > 0 and any(a > b for a, b in zip(mark_at[q, i], cut))]
                if bad:
                    refuses(self, BadCut, bad[0], cut_rows, home, logs, cut)

    def test_logs_that_are_not_right(self):
        asks_right_logs(self, cut_rows, (9,))
        asks_right_logs(self, cut_rows, (0, 0))

    def test_a_triangle(self):
        logs = logs_of(TRIANGLE, (0, 2, 1))
        self.assertEqual(cut_rows(TRIANGLE, logs, (2,)), (1, 2, 1))


if __name__ == "__main__":
    unittest.main()
