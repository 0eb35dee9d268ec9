"""[13] struck."""

import unittest

from starclocks.errors import BadMeeting
from starclocks.logs import logs_of
from starclocks.strikes import struck
from tests.helper import (BARE, LINE, ODD, PIECES, ROAD, asks_right_logs, cuts_by_words, names_by_words, pasts, plain,
                          refuses, small_histories, two_roads, within)

A = logs_of(LINE, (0, 1, 0))
EMPTY = ((), (), ())


class Struck(unittest.TestCase):
    def test_the_example(self):
        self.assertEqual(struck(LINE, A, (1, 1)), ((1, 0), ((0, 2), (1, 1))))

    def test_the_first_and_the_last_one(self):
        self.assertEqual(struck(LINE, A, (0, 1)), ((0, 0), ((0, 1), (0, 2), (1, 1))))
        self.assertEqual(struck(LINE, A, (0, 2)), ((1, 1), ((0, 2),)))

    def test_the_greatest_cut_without_it(self):
        for home, history in small_histories():
            logs = logs_of(home, history)
            cuts = cuts_by_words(home, history)
            for name in names_by_words(home, history):
                got = struck(home, logs, name)
                plain(self, got)
                without = [cut for cut in cuts if cut[name[0]] < name[1]]
                self.assertIn(got[0], without)
                self.assertTrue(all(within(cut, got[0]) for cut in without))

    def test_the_names_of_all_that_it_is_ahead_of(self):
        for home, history in small_histories(longest=15):
            logs = logs_of(home, history)
            called = names_by_words(home, history)
            before = pasts(home, history)
            for k, name in enumerate(called):
                going = [other for j, other in enumerate(called) if j == k or k in before[j]]
                self.assertEqual(struck(home, logs, name)[1], tuple(sorted(going)))

    def test_200_meetings(self):
        logs = two_roads(100, 100)
        self.assertEqual(struck(name=(1, 99), logs=logs, house=PIECES), ((100, 98), ((1, 99), (1, 100))))
        self.assertEqual(struck(ROAD, logs_of(ROAD, (0,) * 200), (0, 200)), ((199,), ((0, 200),)))

    def test_errors(self):
        for name in ODD + (0, (0, 0), (0, 3), (0, -1), (1, 2), (2, 1), (-1, 1), (-2, 1), (0, 1, 1), ("0", 1), (0, "1"),
                           (0, (1,)), ((0,), 1), (False, 1), (0, True), (10 ** 30, 1), (0, 10 ** 30), "01",
                           ((0, 1), (0, 1))):
            refuses(self, BadMeeting, name, struck, LINE, A, name)
            refuses(self, BadMeeting, name, struck, BARE, EMPTY, name)
        refuses(self, BadMeeting, (0, 1), struck, LINE, EMPTY, (0, 1))
        asks_right_logs(self, struck, "x")
        asks_right_logs(self, struck, (0, 1))


if __name__ == "__main__":
    unittest.main()
