"""[14] clipped, sliced and forgotten."""

import unittest
from random import Random

from starclocks.cuts import totals
from starclocks.errors import BadCut, BadMark
from starclocks.logs import logs_of
from starclocks.logsjudge import fault, logs_right
from starclocks.slices import clipped, forgotten, sliced
from tests.helper import (BARE, LINE, ODD, PIECES, ROAD, TRIANGLE, asks_cuts, asks_right_logs, cuts_by_words,
                          marks_by_words, names_by_words, pasts, plain, refuses, small_histories, two_roads, within)

A = logs_of(LINE, (0, 1, 0))
EMPTY = ((), (), ())


class Clipped(unittest.TestCase):
    def test_lessened_but_not_below_0(self):
        self.assertEqual(clipped((2, 1), (1, 0)), (1, 1))
        self.assertEqual(clipped((1, 1, 5), (3, 1, 0)), (0, 0, 5))
        self.assertEqual(clipped(base=(10 ** 30,), mark=(10 ** 30 + 7,)), (7,))
        self.assertEqual(clipped((0,), (10 ** 30,)), (0,))
        self.assertEqual(clipped((), ()), ())
        plain(self, clipped((2, 1), (1, 0)))

    def test_errors(self):
        # What is no mark at all; other values may be one of another length.
        odd = [value for value in ODD + (0, 3, "12", (1, "2"), (1, -1), (True, 1), (1, False), ((1, 2),), (1, (2,)))
               if not (isinstance(value, tuple) and all(type(entry) is int and entry >= 0 for entry in value))]
        self.assertGreater(len(odd), 15)
        for value in odd:
            refuses(self, BadMark, 0, clipped, value, (1, 1))
            refuses(self, BadMark, 0, clipped, value, value)
            refuses(self, BadMark, 1, clipped, (1, 1), value)
        for base in ((), (1,), (1, 1, 1)):
            refuses(self, BadMark, 1, clipped, (1, 1), base)
            refuses(self, BadMark, 1, clipped, base, (1, 1))


class Sliced(unittest.TestCase):
    def test_all_and_nothing(self):
        self.assertEqual(sliced(LINE, A, (0, 0), (2, 1)), A)
        for cut in ((0, 0), (1, 0), (1, 1), (2, 1)):
            self.assertEqual(sliced(LINE, A, cut, cut), EMPTY)
        self.assertEqual(sliced(BARE, EMPTY, (), ()), EMPTY)

    def test_one_meeting(self):
        self.assertEqual(sliced(LINE, A, (1, 0), (1, 1)), ((), ((2, (0, 1)),), ((1, (0, 1)),)))
        self.assertEqual(sliced(high=(1, 0), low=(0, 0), logs=A, house=LINE), (((1, (1, 0)),), ((0, (1, 0)),), ()))

    def test_the_logs_of_the_meetings_between(self):
        for home, history in small_histories():
            logs = logs_of(home, history)
            called = names_by_words(home, history)
            cuts = cuts_by_words(home, history)
            chance = Random(len(cuts))
            for _ in range(12):
                low, high = chance.choice(cuts), chance.choice(cuts)
                low = tuple(map(min, low, high))
                got = sliced(home, logs, low, high)
                plain(self, got)
                self.assertIsNone(fault(home, got))
                self.assertIs(logs_right(home, got), True)
                between = [road for road, (q, i) in zip(history, called) if low[q] < i <= high[q]]
                self.assertEqual(got, logs_of(home, tuple(between)))

    def test_rows_and_marks_word_by_word(self):
        for home, history in small_histories(many=4):
            logs = logs_of(home, history)
            named = dict(zip(names_by_words(home, history), marks_by_words(home, history)))
            for low in cuts_by_words(home, history):
                got = forgotten(home, logs, low)
                staying = {mark for (q, i), mark in named.items() if i > low[q]}
                for log, elder in zip(got, logs):
                    self.assertEqual(log, tuple((mate, tuple(max(0, a - b) for a, b in zip(mark, low)))
                                                for mate, mark in elder if mark in staying))

    def test_errors(self):
        asks_cuts(self, sliced)

    def test_200_meetings_and_very_many_cuts(self):
        logs = two_roads(100, 100)
        self.assertEqual(sliced(PIECES, logs, (0, 0), (100, 100)), logs)
        self.assertEqual(sliced(PIECES, logs, (40, 70), (90, 100)), two_roads(50, 30))
        self.assertEqual(forgotten(PIECES, logs, (99, 1)), two_roads(1, 99))


class Forgotten(unittest.TestCase):
    def test_the_example(self):
        self.assertEqual(forgotten(LINE, A, (1, 0)), (((1, (1, 1)),), ((2, (0, 1)), (0, (1, 1))), ((1, (0, 1)),)))

    def test_is_sliced_to_the_totals(self):
        for home, history in small_histories(many=6):
            logs = logs_of(home, history)
            for cut in cuts_by_words(home, history):
                got = forgotten(home, logs, cut)
                plain(self, got)
                self.assertEqual(got, sliced(home, logs, cut, totals(home, logs)))

    def test_all_and_nothing(self):
        self.assertEqual(forgotten(TRIANGLE, logs_of(TRIANGLE, (0, 2, 1)), (3,)), EMPTY)
        self.assertEqual(forgotten(cut=(0, 0), house=LINE, logs=A), A)
        self.assertEqual(forgotten(BARE, EMPTY, ()), EMPTY)
        self.assertEqual(forgotten(ROAD, logs_of(ROAD, (0,) * 200), (199,)), logs_of(ROAD, (0,)))

    def test_what_is_ahead_stays_ahead_by_clipped_marks(self):
        for home, history in small_histories(many=6):
            before = pasts(home, history)
            found = marks_by_words(home, history)
            called = names_by_words(home, history)
            for cut in cuts_by_words(home, history):
                beyond = [k for k, (q, i) in enumerate(called) if i > cut[q]]
                for j in beyond:
                    for k in beyond:
                        one, two = clipped(found[j], cut), clipped(found[k], cut)
                        self.assertEqual(j in before[k], within(one, two) and one != two)

    def test_errors(self):
        for bad, what in (((), 0), ((0,), 1), ((0, 0, 0), 3), ((3, 0), 0), ((-1, 5), 0), ((0, 2), 1), ((2, -1), 1),
                          ((2, 0), 0), ((0, 1), 1)):
            refuses(self, BadCut, what, forgotten, LINE, A, bad)
        asks_right_logs(self, forgotten, (9,))
        asks_right_logs(self, forgotten, (0, 0))


if __name__ == "__main__":
    unittest.main()
