"""[11] greatest_cut, cut_of_rows, least_cut and cuts_many."""

import unittest
from itertools import product
from random import Random

from starclocks.cutlooks import cut_of_rows, cuts_many, greatest_cut, least_cut
from starclocks.cuts import cut_rows, is_cut, totals
from starclocks.errors import BadCut, BadHand, BadMeeting, TooMany
from starclocks.logs import logs_of
from tests.helper import (BARE, HOUSES, LINE, ODD, PIECES, ROAD, TIED, TRIANGLE, asks_right_logs, cuts_by_words,
                          full_house, names_by_words, plain, refuses, small_histories, some_histories, two_roads,
                          within)

A = logs_of(LINE, (0, 1, 0))
B = logs_of(PIECES, (0, 0, 1))
EMPTY = ((), (), ())


def greatest_of(test, cuts):
    """The one cut that is nowhere below any other one."""
    found = [cut for cut in cuts if all(within(other, cut) for other in cuts)]
    test.assertEqual(len(found), 1)
    return found[0]


class GreatestCut(unittest.TestCase):
    def test_the_example(self):
        self.assertEqual(greatest_cut(LINE, A, (2, 0)), (1, 0))

    def test_nowhere_below_any_other(self):
        chance = Random(2)
        for home, history in small_histories():
            logs = logs_of(home, history)
            cuts = cuts_by_words(home, history)
            for _ in range(10):
                bound = tuple(chance.randint(0, total + 1) for total in totals(home, logs))
                got = greatest_cut(home, logs, bound)
                plain(self, got)
                self.assertEqual(got, greatest_of(self, [cut for cut in cuts if within(cut, bound)]))

    def test_a_cut_as_bound_is_the_answer(self):
        for home, history in small_histories(many=3):
            for cut in cuts_by_words(home, history):
                self.assertEqual(greatest_cut(home, logs_of(home, history), cut), cut)

    def test_bounds_above_the_totals(self):
        self.assertEqual(greatest_cut(LINE, A, (3, 1)), (2, 1))
        self.assertEqual(greatest_cut(LINE, A, (10 ** 30, 10 ** 30)), (2, 1))
        self.assertEqual(greatest_cut(LINE, A, (10 ** 30, 0)), (1, 0))
        self.assertEqual(greatest_cut(LINE, A, (0, 10 ** 30)), (0, 0))
        self.assertEqual(greatest_cut(LINE, EMPTY, (5, 5)), (0, 0))
        self.assertEqual(greatest_cut(BARE, EMPTY, ()), ())

    def test_200_meetings(self):
        logs = logs_of(LINE, (0, 1) * 100)
        self.assertEqual(greatest_cut(LINE, logs, (100, 37)), (38, 37))
        self.assertEqual(greatest_cut(LINE, logs, (12, 100)), (12, 12))
        self.assertEqual(greatest_cut(bound=(100, 0), logs=logs, house=LINE), (1, 0))

    def test_errors(self):
        for bound in ((), (1,), (1, 1, 1), (-1, -1, -1)):
            refuses(self, BadCut, len(bound), greatest_cut, LINE, A, bound)
        refuses(self, BadCut, 0, greatest_cut, LINE, A, (-1, -1))
        refuses(self, BadCut, 1, greatest_cut, LINE, A, (9, -1))
        refuses(self, BadCut, 0, greatest_cut, LINE, A, (-10 ** 30, 9))
        asks_right_logs(self, greatest_cut, (0, -1, 0))
        asks_right_logs(self, greatest_cut, (1, 1))


class CutOfRows(unittest.TestCase):
    def test_the_example(self):
        self.assertEqual(cut_of_rows(LINE, A, (2, 1, 0)), (1, 0))

    def test_nowhere_below_any_other(self):
        chance = Random(3)
        for home, history in small_histories():
            logs = logs_of(home, history)
            cuts = cuts_by_words(home, history)
            for _ in range(10):
                rows = tuple(chance.randint(0, len(log)) for log in logs)
                got = cut_of_rows(home, logs, rows)
                plain(self, got)
                allowed = [cut for cut in cuts if within(cut_rows(home, logs, cut), rows)]
                self.assertEqual(got, greatest_of(self, allowed))

    def test_leads_back_from_cut_rows(self):
        for home, history in small_histories(many=3):
            logs = logs_of(home, history)
            for cut in cuts_by_words(home, history):
                self.assertEqual(cut_of_rows(home, logs, cut_rows(home, logs, cut)), cut)

    def test_all_rows_and_none(self):
        for home in HOUSES:
            for history in some_histories(home):
                logs = logs_of(home, history)
                self.assertEqual(cut_of_rows(home, logs, tuple(map(len, logs))), totals(home, logs))
                self.assertEqual(set(cut_of_rows(home, logs, (0,) * home.n)), {0})
        self.assertEqual(cut_of_rows(house=BARE, rows=(0, 0, 0), logs=EMPTY), ())

    def test_errors(self):
        for rows in ((), (0, 0), (0, 0, 0, 0), (9, 9, 9, 9, 9)):
            refuses(self, BadHand, len(rows), cut_of_rows, LINE, A, rows)
        refuses(self, BadHand, 0, cut_of_rows, LINE, A, (3, 4, 2))
        refuses(self, BadHand, 0, cut_of_rows, LINE, A, (-1, 4, 2))
        refuses(self, BadHand, 1, cut_of_rows, LINE, A, (2, 4, 2))
        refuses(self, BadHand, 1, cut_of_rows, LINE, A, (0, -1, -1))
        refuses(self, BadHand, 2, cut_of_rows, LINE, A, (2, 3, 2))
        refuses(self, BadHand, 2, cut_of_rows, BARE, EMPTY, (0, 0, 1))
        asks_right_logs(self, cut_of_rows, (7,))
        asks_right_logs(self, cut_of_rows, (7, 7, 7))


class LeastCut(unittest.TestCase):
    def test_the_example(self):
        self.assertEqual(least_cut(LINE, A, ((1, 1),)), (1, 1))

    def test_nowhere_above_any_other(self):
        chance = Random(4)
        for home, history in small_histories():
            logs = logs_of(home, history)
            cuts = cuts_by_words(home, history)
            called = names_by_words(home, history)
            for _ in range(10):
                some = tuple(chance.choice(called) for _ in range(chance.randint(0, 3) if called else 0))
                got = least_cut(home, logs, some)
                plain(self, got)
                holding = [cut for cut in cuts if all(i <= cut[q] for q, i in some)]
                self.assertIn(got, holding)
                self.assertTrue(all(within(got, cut) for cut in holding))

    def test_no_names(self):
        self.assertEqual(least_cut(LINE, A, ()), (0, 0))
        self.assertEqual(least_cut(BARE, EMPTY, ()), ())
        self.assertEqual(least_cut(names=(), logs=EMPTY, house=TRIANGLE), (0,))

    def test_names_in_any_order_and_several_times(self):
        self.assertEqual(least_cut(LINE, A, ((0, 2), (0, 1), (0, 2))), (2, 1))
        self.assertEqual(least_cut(PIECES, B, ((1, 1), (0, 1))), (1, 1))
        self.assertEqual(least_cut(LINE, A, ((0, 1),) * 10000), (1, 0))

    def test_errors(self):
        odd = ODD + (0, (0, 0), (0, 3), (0, -1), (1, 2), (2, 1), (-1, 1), (-2, 1), (0, 1, 1), ("0", 1), (0, "1"),
                     (0, (1,)), ((0,), 1), (False, 1), (0, True), (10 ** 30, 1), (0, 10 ** 30), "01")
        for name in odd:
            refuses(self, BadMeeting, 0, least_cut, LINE, A, (name,))
            refuses(self, BadMeeting, 1, least_cut, LINE, A, ((0, 1), name))
            refuses(self, BadMeeting, 2, least_cut, LINE, A, ((1, 1), (0, 2), name, name))
            refuses(self, BadMeeting, 0, least_cut, BARE, EMPTY, (name,))
        asks_right_logs(self, least_cut, ("x",))
        asks_right_logs(self, least_cut, ())


class CutsMany(unittest.TestCase):
    def test_the_examples(self):
        self.assertEqual(cuts_many(LINE, A), 4)
        self.assertEqual(cuts_many(PIECES, B), 6)

    def test_counts_all(self):
        for home, history in small_histories():
            got = cuts_many(home, logs_of(home, history))
            self.assertIs(type(got), int)
            self.assertEqual(got, len(cuts_by_words(home, history)))

    def test_without_meetings(self):
        self.assertEqual(cuts_many(LINE, EMPTY), 1)
        self.assertEqual(cuts_many(BARE, EMPTY), 1)

    def test_200_meetings_in_a_line(self):
        self.assertEqual(cuts_many(ROAD, logs_of(ROAD, (0,) * 200)), 201)
        self.assertEqual(cuts_many(logs=logs_of(LINE, (0, 1) * 100), house=LINE), 201)

    def test_5000_and_5001_cuts(self):
        history = (0,) * 49 + (2,) * 99
        self.assertEqual(cuts_many(TIED, logs_of(TIED, history)), 5000)
        # One meeting behind all others: one cut more.
        refuses(self, TooMany, 5001, cuts_many, TIED, logs_of(TIED, history + (1,)))
        self.assertEqual(cuts_many(TIED, logs_of(TIED, (0,) * 48 + (2,) * 101 + (1, 1))), 5000)

    def test_very_many_cuts(self):
        refuses(self, TooMany, 5001, cuts_many, PIECES, two_roads(100, 100))
        home = full_house()
        roads = [home.roads.index((hand, hand + 1)) for hand in range(0, 10, 2)]
        refuses(self, TooMany, 5001, cuts_many, home, logs_of(home, tuple(roads) * 40))

    def test_some_cuts_of_a_great_house(self):
        home = full_house()
        for history in some_histories(home, longest=12):
            logs = logs_of(home, history)
            many = len(cuts_of_row_counts(logs))
            self.assertEqual(cuts_many(home, logs), many)

    def test_logs_that_are_not_right(self):
        asks_right_logs(self, cuts_many)


def cuts_of_row_counts(logs):
    """All that can be reached by taking meetings one after the other, as numbers of rows of each hand."""
    found = {(0,) * len(logs)}
    ready = list(found)
    while ready:
        rows = ready.pop()
        for one, two in product(range(len(logs)), repeat=2):
            if one < two and rows[one] < len(logs[one]) and rows[two] < len(logs[two]):
                a, b = logs[one][rows[one]], logs[two][rows[two]]
                if a[0] == two and b[0] == one:
                    more = tuple(at + (hand in (one, two)) for hand, at in enumerate(rows))
                    if more not in found:
                        found.add(more)
                        ready.append(more)
    return found


class Together(unittest.TestCase):
    def test_all_are_cuts(self):
        for home in HOUSES:
            chance = Random(5)
            for history in some_histories(home, longest=40):
                logs = logs_of(home, history)
                bound = tuple(chance.randint(0, total) for total in totals(home, logs))
                rows = tuple(chance.randint(0, len(log)) for log in logs)
                called = names_by_words(home, history)
                for cut in (greatest_cut(home, logs, bound), cut_of_rows(home, logs, rows),
                            least_cut(home, logs, tuple(called[1:3]))):
                    self.assertIs(is_cut(home, logs, cut), True)


if __name__ == "__main__":
    unittest.main()
