"""[8] fault and logs_right; [0.3] (b)."""

import unittest
from itertools import product
from random import Random

from starclocks.logs import logs_of
from starclocks.logsjudge import fault, logs_right
from starclocks.parts import house
from tests.helper import (BARE, HOUSES, LINE, ODD, ONE_STAR, PIECES, ROAD, TRIANGLE, full_house, part_at,
                          some_histories, spoilt, two_roads, with_row)

A = logs_of(LINE, (0, 1, 0))
B = logs_of(PIECES, (0, 0, 1))


def road_between(home, one, two):
    """The index of the road between two hands, or None."""
    pair = (min(one, two), max(one, two))
    return home.roads.index(pair) if pair in home.roads else None


def formed(home, hand, row):
    """Whether the value is a row of the hand, word by word."""
    if type(row) is not tuple or len(row) != 2:
        return False
    mate, mark = row
    if type(mate) is not int or road_between(home, hand, mate) is None:
        return False
    if type(mark) is not tuple or len(mark) != len(home.parts):
        return False
    return all(type(entry) is int and 0 <= entry <= 200 for entry in mark)


def made_there(home, logs, hand, index):
    """The mark that the two rows ahead make, with one more at the part of the road."""
    mate, mark = logs[hand][index]
    twin = logs[mate].index((hand, mark))
    zeros = (0,) * len(home.parts)
    own = logs[hand][index - 1][1] if index > 0 else zeros
    other = logs[mate][twin - 1][1] if twin > 0 else zeros
    part = part_at(home, road_between(home, hand, mate))
    return tuple(max(own[q], other[q]) + (1 if q == part else 0) for q in range(len(home.parts)))


def fault_by_words(home, logs):
    """fault, word by word."""
    places = [(hand, index) for hand, log in enumerate(logs) for index in range(len(log))]
    for hand, index in places:
        if not formed(home, hand, logs[hand][index]):
            return (hand, index, 0)
    for hand, index in places:
        mate, mark = logs[hand][index]
        if logs[mate].count((hand, mark)) != 1:
            return (hand, index, 1)
        if logs[hand].count((mate, mark)) > 1:
            return (hand, index, 2)
        if mark != made_there(home, logs, hand, index):
            return (hand, index, 3)
    return None


class Both(unittest.TestCase):
    def faulty(self, home, logs, expected):
        got = fault(home, logs)
        self.assertEqual(got, expected)
        self.assertEqual([type(entry) for entry in got], [int, int, int])
        self.assertIs(type(got), tuple)
        self.assertIs(logs_right(home, logs), False)

    def sound(self, home, logs):
        self.assertIsNone(fault(home, logs))
        self.assertIs(logs_right(home, logs), True)


class Faults(Both):
    def test_the_example(self):
        self.faulty(LINE, with_row(A, 2, 0, (1, (1, 2))), (1, 1, 1))

    def test_logs_of_histories_have_none(self):
        for home in HOUSES + (full_house(),):
            for history in some_histories(home, longest=80):
                self.sound(home, logs_of(home, history))
        self.sound(BARE, ((), (), ()))
        self.sound(LINE, logs_of(LINE, (0, 1) * 100))

    def test_no_form(self):
        odd = ODD + (0, (1,), (1, (1, 0), 0), (1, ()), (1, (1,)), (1, (1, 0, 0)), (1, "10"), (1, 1), ("1", (1, 0)),
                     ((1,), (1, 0)), (1, (1, "0")), (1, (1, (0,))), (1, (1, -1)), (1, (-1, 0)), (1, (201, 0)),
                     (1, (1, 201)), (1, (1, 10 ** 30)), ((), (1, 0)), (10 ** 30, (1, 0)), (-1, (1, 0)),
                     # No mates of hand 0: itself, a hand without a road to it, and no hand.
                     (0, (1, 0)), (2, (1, 0)), (3, (1, 0)))
        for row in odd:
            self.faulty(LINE, with_row(A, 0, 0, row), (0, 0, 0))
            self.faulty(LINE, with_row(A, 0, 1, row), (0, 1, 0))
        self.faulty(LINE, with_row(A, 2, 0, (0, (1, 1))), (2, 0, 0))
        self.faulty(LINE, with_row(A, 1, 1, (1, (1, 1))), (1, 1, 0))
        self.faulty(BARE, ((), (), ((0, ()),)), (2, 0, 0))

    def test_no_form_is_ahead_of_all_other_faults(self):
        # Without the odd row the first row would have the fault 1.
        logs = with_row(A, 0, 0, (1, (5, 5)))
        self.faulty(LINE, logs, (0, 0, 1))
        self.faulty(LINE, with_row(logs, 2, 0, "x"), (2, 0, 0))
        self.faulty(LINE, with_row(logs, 2, 0, (1, (1, 1)), (1, (1, 201))), (2, 1, 0))

    def test_the_first_row_of_no_form(self):
        self.faulty(LINE, with_row(with_row(A, 1, 2, "x"), 2, 0, "y"), (1, 2, 0))
        self.faulty(LINE, with_row(with_row(A, 1, 2, "x"), 1, 1, "y"), (1, 1, 0))

    def test_entries_of_200_and_201(self):
        two_hundred = (tuple((1, (k,)) for k in range(1, 201)), tuple((0, (k,)) for k in range(1, 201)))
        self.sound(ROAD, two_hundred)
        self.faulty(ROAD, tuple(log + ((1 - hand, (201,)),) for hand, log in enumerate(two_hundred)), (0, 200, 0))
        self.faulty(ROAD, (((1, (200,)),), ((0, (200,)),)), (0, 0, 3))
        self.faulty(ROAD, (((1, (201,)),), ((0, (201,)),)), (0, 0, 0))

    def test_1_the_mate_lacks_the_row(self):
        self.faulty(LINE, with_row(A, 1, 0), (0, 0, 1))
        self.faulty(LINE, with_row(A, 2, 0), (1, 1, 1))
        self.faulty(LINE, with_row(A, 0, 1), (1, 2, 1))
        self.faulty(ROAD, (((1, (1,)),), ()), (0, 0, 1))
        self.faulty(ROAD, ((), ((0, (1,)),)), (1, 0, 1))
        # The same mark, but with another hand as mate.
        self.faulty(LINE, (((1, (1, 0)),), ((2, (1, 0)),), ()), (0, 0, 1))

    def test_1_the_mate_has_the_row_twice(self):
        row = (0, (1, 0))
        self.faulty(LINE, with_row(A, 1, 0, row, row), (0, 0, 1))
        self.faulty(LINE, with_row(with_row(A, 1, 0, row, row), 0, 0, (1, (1, 0)), (1, (1, 0))), (0, 0, 1))

    def test_2_this_log_has_the_row_twice(self):
        row = (1, (1, 0))
        self.faulty(LINE, with_row(A, 0, 0, row, row), (0, 0, 2))
        self.faulty(LINE, (((1, (1, 0)), (1, (2, 1)), (1, (1, 0))), A[1], A[2]), (0, 0, 2))
        self.faulty(LINE, with_row(A, 2, 0, (1, (1, 1)), (1, (1, 1))), (1, 1, 1))

    def test_3_the_mark_is_not_made_by_the_rows_ahead(self):
        self.faulty(ROAD, (((1, (2,)),), ((0, (2,)),)), (0, 0, 3))
        self.faulty(ROAD, (((1, (0,)),), ((0, (0,)),)), (0, 0, 3))
        self.faulty(LINE, (((1, (0, 1)),), ((0, (0, 1)),), ()), (0, 0, 3))
        self.faulty(LINE, (((1, (1, 1)),), ((0, (1, 1)),), ()), (0, 0, 3))
        # The rows of hand 1 have changed places.
        self.faulty(LINE, (A[0], (A[1][1], A[1][0], A[1][2]), A[2]), (0, 0, 3))
        self.faulty(LINE, (A[0], (A[1][0], A[1][2], A[1][1]), A[2]), (0, 1, 3))
        # What the mate had heard of before is missing in the mark.
        self.faulty(LINE, (((1, (1, 0)),), ((2, (0, 1)), (0, (1, 0))), ((1, (0, 1)),)), (0, 0, 3))
        # Like marks of meetings with two mates.
        self.faulty(ONE_STAR, (((1, (1,)),), ((0, (1,)), (2, (1,))), ((1, (1,)),)), (1, 1, 3))

    def test_the_least_number_of_one_row(self):
        # 1 and 3: not in the mate's log, and not made.
        self.faulty(ROAD, (((1, (9,)),), ()), (0, 0, 1))
        # 2 and 3: twice in this log, and not made.
        self.faulty(ROAD, (((1, (9,)), (1, (9,))), ((0, (9,)),)), (0, 0, 2))
        # 1, 2 and 3.
        self.faulty(ROAD, (((1, (9,)), (1, (9,))), ()), (0, 0, 1))

    def test_the_first_row_ahead_of_the_least_number(self):
        # The row of hand 0 has the fault 3, a row of hand 1 the fault 1.
        self.faulty(LINE, (((1, (2, 0)),), ((0, (2, 0)), (2, (2, 1))), ()), (0, 0, 3))
        # Hand 0 has its second row twice, hand 1 a row that hand 2 lacks.
        self.faulty(LINE, with_row(with_row(A, 0, 1, A[0][1], A[0][1]), 2, 0), (0, 1, 2))

    def test_many_rows(self):
        rows = 12000
        logs = (((1, (1,)),) * rows, ((0, (1,)),) * rows)
        self.faulty(ROAD, logs, (0, 0, 1))
        sides = tuple(tuple((mate, (k // 200, k % 200)) for k in range(rows)) for mate in (1, 0, 2))
        self.faulty(LINE, (sides[0], sides[1], ()), (0, 0, 3))
        self.faulty(LINE, (sides[0], sides[1] * 2, ()), (0, 0, 1))

    def test_spoilt_logs(self):
        seen = set()
        for home in HOUSES:
            chance = Random(home.n)
            for history in some_histories(home, many=40, longest=12):
                for _ in range(8):
                    logs = spoilt(chance, home, logs_of(home, history))
                    expected = fault_by_words(home, logs)
                    self.assertEqual(fault(home, logs), expected)
                    self.assertIs(logs_right(home, logs), expected is None)
                    seen.add(expected[2] if expected else None)
        self.assertEqual(seen, {None, 0, 1, 2, 3})

    def test_by_name(self):
        self.assertIsNone(fault(logs=A, house=LINE))
        self.assertIs(logs_right(logs=A, house=LINE), True)


class Right(Both):
    def test_201_meetings(self):
        for many in (100, 101):
            logs = two_roads(many, 100)
            self.assertIsNone(fault(PIECES, logs))
            self.assertIs(logs_right(PIECES, logs), many == 100)

    def test_201_meetings_on_a_line(self):
        logs = logs_of(LINE, (0, 1) * 100)
        last = (101, 100)
        more = (logs[0] + ((1, last),), logs[1] + ((0, last),), logs[2])
        self.assertIsNone(fault(LINE, more))
        self.assertIs(logs_right(LINE, more), False)

    def test_values_of_any_form(self):
        for odd in ODD + (0, 3, "xyz", ("", "", ""), ((), "", ()), ((), (), ""), (0, 0, 0), ((), ()), ((),) * 4,
                          A[:2], A + ((),), (A,), ((A[0],), A[1], A[2]), (A[0][0], A[1], A[2])):
            self.assertIs(logs_right(LINE, odd), False)
        for odd in ODD:
            self.assertIs(logs_right(LINE, (odd, (), ())), odd == ())
            self.assertIs(logs_right(LINE, ((odd,), (), ())), False)
            self.assertIs(logs_right(LINE, ((), ((0, odd),), ())), False)
            self.assertIs(logs_right(LINE, ((), ((odd, (1, 0)),), ())), False)
            self.assertIs(logs_right(LINE, ((), ((0, (1, odd)),), ())), False)
        self.assertIs(logs_right(BARE, ((), (), ())), True)
        self.assertIs(logs_right(BARE, ((), ())), False)

    def test_just_the_logs_of_histories_on_one_road(self):
        left = {logs_of(ROAD, (0,) * many) for many in range(4)}
        rows = [tuple(log) for size in range(4) for log in product(range(4), repeat=size)]
        for one, two in product(rows, rows):
            logs = (tuple((1, (entry,)) for entry in one), tuple((0, (entry,)) for entry in two))
            self.assertIs(logs_right(ROAD, logs), logs in left)

    def test_just_the_logs_of_histories_on_two_roads(self):
        for home in (ONE_STAR, LINE):
            left = {logs_of(home, history) for size in range(5) for history in product((0, 1), repeat=size)}
            found = set()
            marks = list(product(range(3), repeat=len(home.parts)))
            outer = [()] + [((1, mark),) for mark in marks]
            middle = [(hand, mark) for hand in (0, 2) for mark in marks]
            inner = [log for size in range(3) for log in product(middle, repeat=size)]
            for logs in product(outer, inner, outer):
                if logs_right(home, logs):
                    found.add(logs)
                else:
                    self.assertNotIn(logs, left)
            self.assertLessEqual(found, left)
            self.assertEqual(len(found), 5)

    def test_spoilt_logs_that_are_right_are_left_by_a_history(self):
        for home in (TRIANGLE, LINE, PIECES, house(3, TRIANGLE.roads, ((0, 1), (2,)))):
            roads = range(len(home.roads))
            left = {logs_of(home, history) for size in range(6) for history in product(roads, repeat=size)}
            chance = Random(len(left))
            for logs in sorted(left):
                for _ in range(3):
                    other = spoilt(chance, home, logs)
                    if sum(len(log) for log in other) <= 10:
                        self.assertIs(logs_right(home, other), other in left)


if __name__ == "__main__":
    unittest.main()
