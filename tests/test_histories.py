"""[4] Histories, and the errors of a history, which hold wherever one comes."""

import unittest

from starclocks.asks import depth, first_beside, past
from starclocks.errors import BadMeeting, TooMany
from starclocks.histories import is_history
from starclocks.logs import logs_of
from starclocks.marks import hand_marks, marks, names
from tests.helper import BARE, HOUSES, LINE, MIXED, ODD, refuses, some_histories

CALLS = (marks, names, hand_marks, first_beside, logs_of,
         lambda house, history: past(house, history, 0), lambda house, history: depth(house, history, 0),
         lambda house, history: past(house, history, -1), lambda house, history: depth(house, history, 10 ** 9))


class IsHistory(unittest.TestCase):
    def test_histories(self):
        for home in HOUSES:
            for history in some_histories(home):
                self.assertIs(is_history(home, history), True)
        self.assertIs(is_history(BARE, ()), True)
        self.assertIs(is_history(BARE, (0,)), False)
        self.assertIs(is_history(history=(0, 1), house=LINE), True)

    def test_lengths(self):
        self.assertIs(is_history(LINE, (0, 1) * 100), True)
        self.assertIs(is_history(LINE, (0, 1) * 100 + (0,)), False)
        self.assertIs(is_history(LINE, (0,) * 90000), False)

    def test_entries_of_any_form(self):
        for odd in ODD + (2, 3, (2,), (0, 2), -2):
            for history in ((odd,), (0, 1, odd), (odd, 0), (odd, odd)):
                self.assertIs(is_history(LINE, history), False)

    def test_values_of_any_form(self):
        for odd in ODD + (0, 1, 2, (2,), (-1,), (0, -1), ("0", 1), ((), 0), "000"):
            self.assertIs(is_history(LINE, odd), odd in ((), (0,)))


class Refusals(unittest.TestCase):
    def test_too_many(self):
        for call in CALLS:
            refuses(self, TooMany, 201, call, LINE, (0, 1) * 100 + (0,))
            refuses(self, TooMany, 4000, call, MIXED, (0,) * 4000)

    def test_too_many_is_ahead_of_a_bad_entry(self):
        for call in CALLS:
            refuses(self, TooMany, 201, call, LINE, ("x",) + (0,) * 200)
            refuses(self, TooMany, 201, call, LINE, (7,) * 201)

    def test_the_first_bad_entry(self):
        for call in CALLS:
            for odd in ODD + (2, 3, -2):
                refuses(self, BadMeeting, 0, call, LINE, (odd,))
                refuses(self, BadMeeting, 2, call, LINE, (0, 1, odd))
                refuses(self, BadMeeting, 1, call, LINE, (0, odd, 0, odd, 2))
            refuses(self, BadMeeting, 199, call, LINE, (0,) * 199 + (2,))
            refuses(self, BadMeeting, 0, call, BARE, (0,))

    def test_two_hundred_are_taken(self):
        for call in (marks, names):
            self.assertEqual(len(call(LINE, (0, 1) * 100)), 200)
        self.assertEqual(hand_marks(LINE, (0, 1) * 100), ((100, 99), (100, 100), (100, 100)))
        self.assertEqual(len(logs_of(LINE, (0, 1) * 100)[1]), 200)
        self.assertIsNone(first_beside(LINE, (0, 1) * 100))
        self.assertEqual(past(LINE, (0, 1) * 100, 199), tuple(range(199)))
        self.assertEqual(depth(LINE, (0, 1) * 100, 199), 200)


if __name__ == "__main__":
    unittest.main()
