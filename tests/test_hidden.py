"""[17] sure_hidden and hidden_ahead."""

import unittest

from starclocks.errors import BadMeeting
from starclocks.hidden import hidden_ahead, sure_hidden
from starclocks.logs import logs_of
from tests.helper import (BARE, LINE, ODD, PIECES, ROAD, TIED, asks_kept, hidden_by_words, lost_cases, names_by_words,
                          pasts, plain, refuses)

A = logs_of(LINE, (0, 1, 0))
KEPT = ((), (), ((1, (1, 1)),))
EMPTY = ((), (), ())


class SureHidden(unittest.TestCase):
    def test_the_example(self):
        self.assertEqual(sure_hidden(LINE, KEPT, (0, 1)), ((0, 1),))

    def test_the_lost_meetings_ahead_of_kept_ones(self):
        for home, history, _, lost, kept in lost_cases(longest=25):
            called = names_by_words(home, history)
            got = sure_hidden(home, kept, lost)
            plain(self, got)
            self.assertEqual(got, tuple(sorted(called[k] for k in hidden_by_words(home, history, lost))))

    def test_lost_meetings_that_are_not_sure(self):
        logs = logs_of(LINE, (0, 0, 1, 0, 0))
        self.assertEqual(sure_hidden(LINE, ((), (), logs[2]), (0, 1)), ((0, 1), (0, 2)))
        self.assertEqual(sure_hidden(PIECES, ((), (), ((3, (0, 1)),), ((2, (0, 1)),)), (0, 1)), ())

    def test_without_rows_and_without_lost_hands(self):
        self.assertEqual(sure_hidden(LINE, EMPTY, (0, 1)), ())
        self.assertEqual(sure_hidden(LINE, EMPTY, (0, 1, 2)), ())
        self.assertEqual(sure_hidden(LINE, A, ()), ())
        self.assertEqual(sure_hidden(BARE, EMPTY, (0,)), ())

    def test_a_road_with_one_lost_hand(self):
        logs = logs_of(ROAD, (0,) * 200)
        self.assertEqual(sure_hidden(lost=(0,), kept=((), logs[1]), house=ROAD), ())

    def test_the_line_of_four_hands(self):
        self.assertEqual(sure_hidden(TIED, ((), (), (), ((2, (1, 2, 1)),)), (0, 1, 2)), ((0, 1), (1, 1), (1, 2)))

    def test_errors(self):
        asks_kept(self, sure_hidden)


class HiddenAhead(unittest.TestCase):
    def test_the_example(self):
        self.assertIs(hidden_ahead(LINE, KEPT, (0, 1), (0, 1), (1, 1)), True)

    def test_what_was_ahead_in_the_history(self):
        seen = []
        for home, history, _, lost, kept in lost_cases(many=4, longest=16):
            called = names_by_words(home, history)
            before = pasts(home, history)
            kept_ones = [k for k, road in enumerate(history) if not set(home.roads[road]) <= set(lost)]
            for k in hidden_by_words(home, history, lost)[:6]:
                for j in kept_ones[:12]:
                    got = hidden_ahead(home, kept, lost, called[k], called[j])
                    self.assertIs(got, k in before[j])
                    seen.append(got)
        self.assertGreater(seen.count(True), 50)
        self.assertGreater(seen.count(False), 50)

    def test_by_name(self):
        got = hidden_ahead(of=(1, 1), name=(0, 1), lost=(0, 1), kept=KEPT, house=LINE)
        self.assertIs(got, True)

    def test_errors(self):
        asks_kept(self, hidden_ahead, "x", "y")
        asks_kept(self, hidden_ahead, (0, 1), (1, 1))
        odd = ODD + (0, (0, 0), (0, 2), (0, -1), (1, 2), (2, 1), (-1, 1), (-2, 1), (0, 1, 1), ("0", 1), (0, "1"),
                     (0, (1,)), ((0,), 1), (10 ** 30, 1), (0, 10 ** 30), "01", ((0, 1), (0, 1)))
        for name in odd + ((False, 1), (0, True), (False, True)):
            # The name is asked ahead of the other one.
            refuses(self, BadMeeting, name, hidden_ahead, LINE, KEPT, (0, 1), name, (1, 1))
            refuses(self, BadMeeting, name, hidden_ahead, LINE, KEPT, (0, 1), name, "z")
        for name in odd + ((True, 1), (1, True), (True, True)):
            refuses(self, BadMeeting, name, hidden_ahead, LINE, KEPT, (0, 1), (0, 1), name)

    def test_a_kept_name_is_not_hidden_and_a_hidden_one_not_kept(self):
        refuses(self, BadMeeting, (1, 1), hidden_ahead, LINE, KEPT, (0, 1), (1, 1), (1, 1))
        refuses(self, BadMeeting, (0, 1), hidden_ahead, LINE, KEPT, (0, 1), (0, 1), (0, 1))
        # The third meeting of the history was lost, too, but is not sure.
        refuses(self, BadMeeting, (0, 2), hidden_ahead, LINE, KEPT, (0, 1), (0, 2), (1, 1))
        refuses(self, BadMeeting, (0, 1), hidden_ahead, LINE, A, (), (0, 1), (1, 1))
        refuses(self, BadMeeting, (0, 1), hidden_ahead, LINE, EMPTY, (0, 1), (0, 1), (1, 1))


if __name__ == "__main__":
    unittest.main()
