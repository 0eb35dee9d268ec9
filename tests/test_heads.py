"""[20] head and mended; [21] stuck."""

import unittest
from itertools import product
from random import Random

from starclocks.errors import BadLogs
from starclocks.heads import head, mended, stuck
from starclocks.logs import logs_of
from starclocks.logsjudge import fault
from starclocks.parts import house
from tests.helper import (BARE, HOUSES, LINE, ONE_STAR, PIECES, ROAD, TIED, TRIANGLE, asks_forms_alone, full_house,
                          part_at, plain, refuses, some_histories, spoilt, two_roads, with_row, within)

A = logs_of(LINE, (0, 1, 0))
SPOILT = with_row(A, 2, 0, (1, (1, 2)))
EMPTY = ((), (), ())


def made_here(home, logs, rows, one, two):
    """The mark of a meeting of two hands behind so many rows of each hand."""
    part = part_at(home, home.roads.index((min(one, two), max(one, two))))
    zeros = (0,) * len(home.parts)
    clocks = [logs[hand][rows[hand] - 1][1] if rows[hand] > 0 else zeros for hand in (one, two)]
    return tuple(max(a, b) + (q == part) for q, (a, b) in enumerate(zip(*clocks)))


def head_by_words(home, logs, chance):
    """head, word by word: as long as there is one, any road's meeting that can be taken is taken."""
    rows = [0] * home.n
    while True:
        ready = []
        for one, two in home.roads:
            nexts = [logs[hand][rows[hand]] if rows[hand] < len(logs[hand]) else None for hand in (one, two)]
            if None not in nexts and nexts[0][0] == two and nexts[1][0] == one:
                made = made_here(home, logs, rows, one, two)
                if nexts[0][1] == made and nexts[1][1] == made:
                    ready.append((one, two))
        if not ready:
            return tuple(rows)
        for hand in chance.choice(ready):
            rows[hand] += 1


def stuck_by_words(home, logs, rows):
    """stuck, word by word, behind what can be taken."""
    found = []
    for hand in range(home.n):
        if rows[hand] == len(logs[hand]):
            found.append(None)
            continue
        mate, mark = logs[hand][rows[hand]]
        if rows[mate] == len(logs[mate]):
            found.append(1)
        elif logs[mate][rows[mate]][0] != hand:
            found.append(0)
        else:
            made = made_here(home, logs, rows, hand, mate)
            assert logs[mate][rows[mate]][1] != mark or mark != made
            found.append(2)
    return tuple(found)


def first_rows_of(logs, rows):
    return tuple(log[:many] for log, many in zip(logs, rows))


def by_form(home, logs):
    """Whether fault finds no row that is bad by its form."""
    found = fault(home, logs)
    return found is None or found[2] != 0


def spoilt_logs(many=12, longest=12):
    """Pairs of a house and logs of it, right ones and spoilt ones, all rows with the form of rows."""
    for home in HOUSES + (TIED, house(3, TRIANGLE.roads, ((0, 1), (2,)))):
        chance = Random(home.n)
        for history in some_histories(home, many=many, longest=longest):
            logs = logs_of(home, history)
            yield home, logs
            for _ in range(8):
                other = spoilt(chance, home, logs)
                if by_form(home, other):
                    yield home, other


class Heads(unittest.TestCase):
    def test_the_example(self):
        self.assertEqual(head(LINE, SPOILT), (1, 1, 0))
        self.assertEqual(mended(LINE, SPOILT), (((1, (1, 0)),), ((0, (1, 0)),), ()))

    def test_what_can_be_taken(self):
        chance = Random(20)
        short = 0
        for home, logs in spoilt_logs():
            got = head(home, logs)
            plain(self, got)
            for _ in range(2):
                self.assertEqual(got, head_by_words(home, logs, chance))
            self.assertEqual(mended(home, logs), first_rows_of(logs, got))
            plain(self, mended(home, logs))
            short += 0 < sum(got) < sum(map(len, logs))
        self.assertGreater(short, 150)

    def test_all_rows_just_if_there_is_no_fault(self):
        seen = []
        for home, logs in spoilt_logs():
            whole = head(home, logs) == tuple(len(log) for log in logs)
            self.assertEqual(whole, fault(home, logs) is None)
            self.assertIsNone(fault(home, mended(home, logs)))
            seen.append(whole)
        self.assertGreater(seen.count(True), 100)
        self.assertGreater(seen.count(False), 300)

    def test_all_first_rows_without_a_fault_stand(self):
        many = 0
        for home, logs in spoilt_logs(many=8, longest=5):
            got = head(home, logs)
            for rows in product(*[range(len(log) + 1) for log in logs]):
                if fault(home, first_rows_of(logs, rows)) is None:
                    self.assertTrue(within(rows, got))
                    many += 1
        self.assertGreater(many, 500)

    def test_logs_of_histories_stand(self):
        for home in HOUSES + (full_house(),):
            for history in some_histories(home, longest=80):
                logs = logs_of(home, history)
                self.assertEqual(head(home, logs), tuple(len(log) for log in logs))
                self.assertEqual(mended(home, logs), logs)
                self.assertEqual(stuck(home, logs), (None,) * home.n)

    def test_without_rows(self):
        self.assertEqual(head(LINE, EMPTY), (0, 0, 0))
        self.assertEqual(mended(BARE, EMPTY), EMPTY)
        one = house(1, (), ())
        self.assertEqual((head(one, ((),)), mended(one, ((),)), stuck(one, ((),))), ((0,), ((),), (None,)))

    def test_more_than_400_rows(self):
        logs = two_roads(200, 200)
        self.assertEqual(head(PIECES, logs), (200,) * 4)
        self.assertEqual(mended(PIECES, logs), logs)
        more = with_row(logs, 2, 150)
        self.assertEqual(head(PIECES, more), (200, 200, 150, 150))
        self.assertEqual(mended(PIECES, more), logs[:2] + (logs[2][:150], logs[3][:150]))
        self.assertEqual(stuck(PIECES, more), (None, None, 2, 2))

    def test_very_many_rows(self):
        rows = 30000
        logs = (((1, (1,)),) * rows, ((0, (1,)),) * rows)
        self.assertEqual((head(ROAD, logs), stuck(ROAD, logs)), ((1, 1), (2, 2)))
        home = house(4, LINE.roads + ((2, 3),), ((0,), (1,), (2,)))
        logs = logs_of(home, (0, 1, 2, 1, 0))
        long = tuple(log + ((log[0][0], (9, 9, 9)),) * rows for log in logs)
        self.assertEqual(head(home, long), tuple(len(log) for log in logs))
        self.assertEqual(mended(home, long), logs)

    def test_the_200th_entry(self):
        logs = tuple(tuple((1 - hand, (k,)) for k in range(1, 201)) + ((1 - hand, (200,)),) for hand in (0, 1))
        self.assertEqual((head(ROAD, logs), stuck(ROAD, logs)), ((200, 200), (2, 2)))

    def test_left_out_doubled_exchanged_and_turned(self):
        self.assertEqual(head(LINE, with_row(A, 1, 0)), (0, 0, 0))
        self.assertEqual(head(LINE, with_row(A, 0, 1)), (1, 2, 1))
        self.assertEqual(head(LINE, with_row(A, 0, 0, A[0][0], A[0][0])), (1, 2, 1))
        self.assertEqual(head(LINE, (A[0], (A[1][0], A[1][2], A[1][1]), A[2])), (1, 1, 0))
        self.assertEqual(head(LINE, with_row(A, 1, 1, (0, (1, 1)))), (1, 1, 0))
        self.assertEqual(head(LINE, with_row(with_row(A, 1, 1, (2, (2, 1))), 2, 0, (1, (2, 1)))), (1, 1, 0))

    def test_errors(self):
        for call in (head, mended, stuck):
            asks_forms_alone(self, call)
        refuses(self, BadLogs, (1, 0, 0), head, logs=((), ("x",), ()), house=LINE)


class Stuck(unittest.TestCase):
    def test_the_example(self):
        self.assertEqual(stuck(LINE, SPOILT), (0, 2, 2))

    def test_each_number(self):
        self.assertEqual(stuck(LINE, A), (None, None, None))
        # The mate has no next row.
        self.assertEqual(stuck(ROAD, (((1, (1,)),), ())), (1, None))
        self.assertEqual(stuck(LINE, with_row(A, 2, 0)), (0, 1, None))
        # The mate's next row has another mate.
        self.assertEqual(stuck(ONE_STAR, (((1, (1,)),), ((2, (1,)),), ())), (0, 1, None))
        # All name the next one in a ring.
        self.assertEqual(stuck(TRIANGLE, (((1, (1,)),), ((2, (1,)),), ((0, (1,)),))), (0, 0, 0))
        # Different marks; like marks that are not made.
        self.assertEqual(stuck(ROAD, (((1, (1,)),), ((0, (2,)),))), (2, 2))
        self.assertEqual(stuck(ROAD, (((1, (2,)),), ((0, (1,)),))), (2, 2))
        self.assertEqual(stuck(ROAD, (((1, (2,)),), ((0, (2,)),))), (2, 2))
        self.assertEqual(stuck(ROAD, (((1, (0,)),), ((0, (0,)),))), (2, 2))

    def test_word_by_word(self):
        seen = set()
        for home, logs in spoilt_logs():
            got = stuck(home, logs)
            plain(self, got)
            self.assertEqual(got, stuck_by_words(home, logs, head_by_words(home, logs, Random(1))))
            seen |= set(got)
        self.assertEqual(seen, {None, 0, 1, 2})

    def test_by_name(self):
        self.assertEqual(stuck(logs=SPOILT, house=LINE), (0, 2, 2))
        self.assertEqual(head(logs=SPOILT, house=LINE), (1, 1, 0))
        self.assertEqual(mended(logs=A, house=LINE), A)


if __name__ == "__main__":
    unittest.main()
