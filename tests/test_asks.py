"""[6] ahead, past, depth and first_beside; [0.3] (a)."""

import unittest

from starclocks.asks import ahead, depth, first_beside, past
from starclocks.errors import BadMark, BadMeeting, TooMany
from starclocks.marks import marks
from tests.helper import (BARE, HOUSES, LINE, MIXED, ONE_STAR, PIECES, ROAD, full_house, pasts, plain, refuses,
                          some_histories)

# No tuples of numbers from 0 on.
NO_MARKS = ("", "00", 0, -1, 10 ** 30, (-1,), (0, -1), (0, -10 ** 30), ("0",), (0, "0"), ((0,),), (0, (0,)), ((), 0),
            (0, ()))


class Ahead(unittest.TestCase):
    def test_marks(self):
        self.assertIs(ahead((1, 0), (1, 1)), True)
        self.assertIs(ahead((1, 1), (1, 0)), False)
        self.assertIs(ahead((1, 0), (0, 1)), False)
        self.assertIs(ahead((0, 1), (1, 0)), False)
        self.assertIs(ahead((2, 1), (2, 1)), False)
        self.assertIs(ahead((0, 0), (0, 0)), False)
        self.assertIs(ahead((0,), (10 ** 30,)), True)
        self.assertIs(ahead((201, 5, 0), (10 ** 30, 5, 0)), True)
        self.assertIs(ahead((3, 4, 5), (4, 5, 4)), False)
        self.assertIs(ahead((), ()), False)
        self.assertIs(ahead(two=(1, 1), one=(1, 0)), True)

    def test_the_first_one_is_asked_first(self):
        for odd in NO_MARKS:
            refuses(self, BadMark, 0, ahead, odd, (0, 0))
            refuses(self, BadMark, 0, ahead, odd, odd)
            refuses(self, BadMark, 0, ahead, odd, ())

    def test_the_second_one(self):
        for odd in NO_MARKS:
            refuses(self, BadMark, 1, ahead, (0, 0), odd)
        for one, two in (((0,), ()), ((), (0,)), ((1, 2), (1, 2, 3)), ((1, 2, 3), (1, 2))):
            refuses(self, BadMark, 1, ahead, one, two)

    def test_just_if_the_marks_say_so(self):
        for home in HOUSES + (full_house(),):
            for history in some_histories(home, longest=40):
                found = marks(home, history)
                before = pasts(home, history)
                for i, one in enumerate(found):
                    for j, two in enumerate(found):
                        self.assertIs(ahead(one, two), i in before[j])


class PastAndDepth(unittest.TestCase):
    def test_past(self):
        self.assertEqual(past(LINE, (0, 1, 0), 2), (0, 1))
        self.assertEqual(past(PIECES, (0, 0, 1), 2), ())
        self.assertEqual(past(PIECES, (0, 1, 0, 1), 3), (1,))
        for home in HOUSES:
            for history in some_histories(home):
                for i, before in enumerate(pasts(home, history)):
                    self.assertEqual(past(home, history, i), tuple(sorted(before)))

    def test_depth(self):
        self.assertEqual(depth(LINE, (0, 1, 0), 2), 3)
        self.assertEqual(depth(PIECES, (0, 0, 1), 2), 1)
        self.assertEqual(depth(PIECES, (0, 0, 1), 1), 2)
        for home in HOUSES:
            for history in some_histories(home, longest=50):
                lines = []
                for i, before in enumerate(pasts(home, history)):
                    lines.append(1 + max((lines[j] for j in before), default=0))
                    self.assertEqual(depth(home, history, i), lines[i])

    def test_no_index_of_a_meeting(self):
        for call in (past, depth):
            for index in (-1, 3, 4, -3, 10 ** 30, -10 ** 30):
                refuses(self, BadMeeting, index, call, LINE, (0, 1, 0), index)
            refuses(self, BadMeeting, 0, call, LINE, (), 0)
            refuses(self, BadMeeting, 0, call, BARE, (), 0)

    def test_errors_of_the_history_come_first(self):
        for call in (past, depth):
            for index in (0, 5, -7, 10 ** 30):
                refuses(self, BadMeeting, 1, call, LINE, (0, 9, "x"), index)
                refuses(self, TooMany, 201, call, LINE, (9,) * 201, index)

    def test_kinds_of_values(self):
        plain(self, past(MIXED, (0, 1, 2, 3), 3))
        self.assertIs(type(depth(MIXED, (0, 1, 2, 3), 3)), int)
        self.assertEqual(past(index=2, history=(0, 1, 0), house=LINE), (0, 1))
        self.assertEqual(depth(index=2, history=(0, 1, 0), house=LINE), 3)


class FirstBeside(unittest.TestCase):
    def test_the_example(self):
        self.assertEqual(first_beside(PIECES, (0, 0, 1)), (0, 2))

    def test_none(self):
        self.assertIsNone(first_beside(PIECES, ()))
        self.assertIsNone(first_beside(PIECES, (0,)))
        self.assertIsNone(first_beside(ROAD, (0,) * 50))
        self.assertIsNone(first_beside(ONE_STAR, (0, 1, 1, 0, 1)))

    def test_the_least_pair(self):
        # Meeting 2 is beside 0 and 1, and 3 beside 0: the least first index decides, then the least second one.
        self.assertEqual(first_beside(PIECES, (0, 0, 1, 1)), (0, 2))
        self.assertEqual(first_beside(MIXED, (3, 2, 4, 0)), (1, 2))
        for home in HOUSES:
            for history in some_histories(home):
                before = pasts(home, history)
                pairs = [(i, j) for j in range(len(history)) for i in range(j) if i not in before[j]]
                self.assertEqual(first_beside(home, history), min(pairs, default=None))

    def test_kinds_of_values(self):
        got = first_beside(history=(0, 0, 1), house=PIECES)
        self.assertIs(type(got), tuple)
        plain(self, got)


if __name__ == "__main__":
    unittest.main()
