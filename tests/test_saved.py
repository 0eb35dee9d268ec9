"""[23] saved_right, line, fallen, useless and line_after."""

import unittest
from random import Random

from starclocks.cuts import cut_rows, is_cut
from starclocks.errors import BadHand, BadSaved
from starclocks.logs import logs_of
from starclocks.parts import house
from starclocks.saved import fallen, line, line_after, saved_right, useless
from tests.helper import (BARE, HOUSES, LINE, ODD, PIECES, ROAD, asks_right_logs, cuts_by_words, full_house, plain,
                          refuses, small_histories, some_histories, two_roads, with_row, within)

A = logs_of(LINE, (0, 1, 0))
SAVED = ((0, 2), (0, 1), (0, 1))
OTHER = ((0, 1, 2), (0, 1), (0, 1))
EMPTY = ((), (), ())
BARELY = ((0,), (0,), (0,))
# Tuples that are no saved counts of a hand with two rows.
NO_COUNTS = ((), (1,), (1, 2), (-1, 0), (0, 3), (0, 0), (0, 1, 1), (0, 2, 1), (0, 1, 2, 3), (0, -1), (0, 10 ** 30))


def rows_by_words(home, logs, cut):
    """For each hand how many of its rows have a name in the cut."""
    found = []
    for hand, log in enumerate(logs):
        many = 0
        for mate, mark in log:
            road = home.roads.index((min(hand, mate), max(hand, mate)))
            part = next(q for q, part in enumerate(home.parts) if road in part)
            many += mark[part] <= cut[part]
        found.append(many)
    return tuple(found)


def some_saved(chance, logs):
    """Saved counts: 0, and some of the other numbers of rows."""
    share = chance.random()
    return tuple((0,) + tuple(k for k in range(1, len(log) + 1) if chance.random() < share) for log in logs)


def saved_cases(many=8):
    """House, logs, saved counts, and the pairs of each saved cut and its numbers of rows."""
    for home, history in small_histories(many=many):
        logs = logs_of(home, history)
        cuts = [(cut, rows_by_words(home, logs, cut)) for cut in cuts_by_words(home, history)]
        chance = Random(len(cuts))
        for _ in range(6):
            saved = some_saved(chance, logs)
            yield home, logs, saved, [(cut, rows) for cut, rows in cuts
                                      if all(many in counts for many, counts in zip(rows, saved))]


def greatest(test, pairs):
    """The one cut that is nowhere below any other, with its rows."""
    found = [(cut, rows) for cut, rows in pairs if all(within(other, cut) for other, _ in pairs)]
    test.assertEqual(len(found), 1)
    return found[0]


class Judge(unittest.TestCase):
    def test_saved_counts(self):
        for saved in (SAVED, OTHER, BARELY, ((0, 1, 2), (0, 1, 2, 3), (0, 1)), ((0, 2), (0, 3), (0,))):
            self.assertIs(saved_right(LINE, A, saved), True)
        self.assertIs(saved_right(BARE, EMPTY, BARELY), True)
        self.assertIs(saved_right(house(1, (), ()), ((),), ((0,),)), True)
        self.assertIs(saved_right(saved=BARELY, logs=EMPTY, house=LINE), True)
        for home, logs, saved, _ in saved_cases(many=3):
            self.assertIs(saved_right(home, logs, saved), True)

    def test_no_saved_counts(self):
        for counts in NO_COUNTS:
            self.assertIs(saved_right(LINE, A, (counts, (0,), (0,))), False)
            self.assertIs(saved_right(LINE, A, ((0,), (0,), counts)), False)
        self.assertIs(saved_right(LINE, A, ((0,), (0, 4), (0,))), False)
        self.assertIs(saved_right(LINE, A, ((0,), (0,), (0, 2))), False)
        self.assertIs(saved_right(LINE, EMPTY, ((0,), (0, 1), (0,))), False)

    def test_values_of_any_form(self):
        for odd in ODD + (0, 3, "000", ("0", "0", "0"), ((0,), (0,)), ((0,),) * 4, (BARELY,), (0, 0, 0), ((), (), ()),
                          ((0,), (0,), 0), ((0,), (0,), "0"), ((0,), (False,), (0,)), ((0, True), (0,), (0,)),
                          ((0, (1,)), (0,), (0,)), ((0, "1"), (0,), (0,)), ((0, ()), (0,), (0,))):
            self.assertIs(saved_right(LINE, A, odd), False)
            self.assertIs(saved_right(LINE, A, (odd, (0,), (0,))), odd == (0,) or odd == (0, 1, 2))
            self.assertIs(saved_right(LINE, A, ((0, odd), (0,), (0,))), False)
            self.assertIs(saved_right(LINE, odd, BARELY), odd == EMPTY)
            self.assertIs(saved_right(LINE, odd, odd), False)
            self.assertIs(saved_right(LINE, with_row(A, 2, 0, odd), BARELY), False)

    def test_logs_that_are_not_right(self):
        self.assertIs(saved_right(LINE, with_row(A, 2, 0), BARELY), False)
        self.assertIs(saved_right(LINE, with_row(A, 2, 0, (1, (1, 2))), BARELY), False)
        self.assertIs(saved_right(LINE, A[:2], BARELY[:2]), False)
        self.assertIs(saved_right(PIECES, two_roads(100, 100), ((0,),) * 4), True)
        self.assertIs(saved_right(PIECES, two_roads(101, 100), ((0,),) * 4), False)


class Lines(unittest.TestCase):
    def test_the_examples(self):
        self.assertEqual(line(LINE, A, SAVED), (0, 0))
        self.assertEqual(fallen(LINE, A, SAVED), (2, 3, 1))
        self.assertEqual(useless(LINE, A, SAVED), ((0, 2), (1, 1), (2, 1)))
        self.assertEqual(line(LINE, A, OTHER), (1, 0))
        self.assertEqual(fallen(LINE, A, OTHER), (1, 2, 1))

    def test_the_greatest_of_all_saved_cuts(self):
        seen = set()
        for home, logs, saved, pairs in saved_cases():
            cut, rows = greatest(self, pairs)
            got = line(home, logs, saved)
            plain(self, got)
            self.assertEqual(got, cut)
            self.assertIs(is_cut(home, logs, got), True)
            self.assertEqual(cut_rows(home, logs, got), rows)
            lie = fallen(home, logs, saved)
            plain(self, lie)
            self.assertEqual(lie, tuple(len(log) - many for log, many in zip(logs, rows)))
            seen.add((sum(cut) > 0, sum(lie) > 0))
        self.assertEqual(len(seen), 4)

    def test_just_the_pairs_that_no_saved_cut_has(self):
        found = 0
        for home, logs, saved, pairs in saved_cases():
            expected = [(hand, count) for hand, counts in enumerate(saved) for count in counts
                        if not any(rows[hand] == count for _, rows in pairs)]
            got = useless(home, logs, saved)
            plain(self, got)
            self.assertEqual(got, tuple(expected))
            found += len(got)
        self.assertGreater(found, 200)

    def test_the_greatest_with_at_most_so_many_rows(self):
        for home, logs, saved, pairs in saved_cases(many=6):
            chance = Random(len(pairs))
            for _ in range(5):
                bound = tuple(chance.randint(0, len(log)) for log in logs)
                cut, _ = greatest(self, [(cut, rows) for cut, rows in pairs if within(rows, bound)])
                got = line_after(home, logs, saved, bound)
                plain(self, got)
                self.assertEqual(got, cut)
            self.assertEqual(line_after(home, logs, saved, tuple(map(len, logs))), line(home, logs, saved))
            self.assertEqual(line_after(home, logs, saved, (0,) * home.n), (0,) * len(home.parts))

    def test_longer_ones(self):
        # Too many cuts to list: the line is saved, and no greater cut found by any larger bound is.
        for home in HOUSES + (full_house(),):
            chance = Random(home.n)
            for history in some_histories(home, many=3, longest=200):
                logs = logs_of(home, history)
                saved = some_saved(chance, logs)
                cut = line(home, logs, saved)
                rows = cut_rows(home, logs, cut)
                self.assertTrue(all(many in counts for many, counts in zip(rows, saved)))
                self.assertEqual(line_after(home, logs, saved, rows), cut)
                self.assertEqual(line_after(home, logs, tuple(tuple(range(len(log) + 1)) for log in logs), rows), cut)
                lost = useless(home, logs, saved)
                self.assertEqual(lost, tuple(sorted(lost)))
                for hand, counts in enumerate(saved):
                    beyond = [count for count in counts if count > rows[hand]]
                    self.assertTrue(all((hand, count) in lost for count in beyond))
                    self.assertNotIn((hand, rows[hand]), lost)
                    self.assertNotIn((hand, 0), lost)

    def test_counts_of_0_alone_and_of_all_rows(self):
        for home, history in small_histories(many=4):
            logs = logs_of(home, history)
            barely = ((0,),) * home.n
            self.assertEqual(line(home, logs, barely), (0,) * len(home.parts))
            self.assertEqual(fallen(home, logs, barely), tuple(map(len, logs)))
            self.assertEqual(useless(home, logs, barely), ())
            each = tuple(tuple(range(len(log) + 1)) for log in logs)
            self.assertEqual(line(home, logs, each), tuple(max([m[q] for log in logs for _, m in log] + [0])
                                                           for q in range(len(home.parts))))
            self.assertEqual(fallen(home, logs, each), (0,) * home.n)
            self.assertEqual(useless(home, logs, each), ())
            ends = tuple(tuple(sorted({0, len(log)})) for log in logs)
            self.assertEqual(fallen(home, logs, ends), (0,) * home.n)

    def test_without_rows(self):
        for home, logs in ((LINE, EMPTY), (BARE, EMPTY), (house(1, (), ()), ((),))):
            saved = ((0,),) * home.n
            self.assertEqual(line(home, logs, saved), (0,) * len(home.parts))
            self.assertEqual(line_after(home, logs, saved, (0,) * home.n), (0,) * len(home.parts))
            self.assertEqual(fallen(home, logs, saved), (0,) * home.n)
            self.assertEqual(useless(home, logs, saved), ())

    def test_falling_step_by_step_to_nothing(self):
        logs = logs_of(ROAD, (0,) * 200)
        saved = (tuple(range(0, 201, 2)), (0,) + tuple(range(1, 201, 2)))
        self.assertEqual(line(ROAD, logs, saved), (0,))
        self.assertEqual(fallen(ROAD, logs, saved), (200, 200))
        self.assertEqual(useless(ROAD, logs, saved),
                         tuple((hand, count) for hand in (0, 1) for count in saved[hand][1:]))
        self.assertEqual(line(ROAD, logs, (saved[0], saved[1] + (200,))), (200,))
        self.assertEqual(line_after(ROAD, logs, (saved[0], saved[1] + (200,)), (200, 199)), (0,))

    def test_by_name(self):
        self.assertEqual(line(saved=OTHER, logs=A, house=LINE), (1, 0))
        self.assertEqual(fallen(saved=OTHER, logs=A, house=LINE), (1, 2, 1))
        self.assertEqual(useless(saved=OTHER, logs=A, house=LINE), ((0, 2), (2, 1)))
        self.assertEqual(line_after(rows=(2, 3, 1), saved=OTHER, logs=A, house=LINE), (1, 0))


class Errors(unittest.TestCase):
    CALLS = ((line, ()), (fallen, ()), (useless, ()), (line_after, ((2, 3, 1),)), (line_after, ((9, 9),)))

    def test_the_first_hand_whose_tuple_is_not_so(self):
        for call, more in self.CALLS:
            for counts in NO_COUNTS:
                refuses(self, BadSaved, 0, call, LINE, A, (counts, (0,), (0,)), *more)
                refuses(self, BadSaved, 2, call, LINE, A, ((0, 2), (0, 3), counts), *more)
                refuses(self, BadSaved, 0, call, LINE, A, (counts, counts, counts), *more)
            refuses(self, BadSaved, 1, call, LINE, A, ((0, 2), (0, 4), (0, 2)), *more)
            refuses(self, BadSaved, 2, call, LINE, A, ((0, 2), (0, 3), (0, 2)), *more)
            refuses(self, BadSaved, 0, call, BARE, EMPTY, ((0, 1), (0,), (0,)), *more)
            asks_right_logs(self, call, ((0,), (0,), ()), *more)
            asks_right_logs(self, call, ((0,), (0,), (0,), (0,)), *more)

    def test_row_counts(self):
        for rows, what in (((), 0), ((2,), 1), ((2, 3), 2), ((2, 3, 1, 0), 4), ((9, 9, 9, 9), 4), ((3, 3, 1), 0),
                           ((-1, 3, 1), 0), ((2, 4, 9), 1), ((2, 3, 2), 2), ((2, 3, -1), 2), ((2, 3, 10 ** 30), 2)):
            refuses(self, BadHand, what, line_after, LINE, A, OTHER, rows)
            refuses(self, BadSaved, 1, line_after, LINE, A, ((0,), (), (0,)), rows)


if __name__ == "__main__":
    unittest.main()
