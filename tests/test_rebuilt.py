"""[18] rebuilt and all_logs; [19] kept_right."""

import unittest
from itertools import product
from random import Random

from starclocks.errors import BadHand, BadLogs, MetHand
from starclocks.logs import logs_of
from starclocks.logsjudge import logs_right
from starclocks.parts import house
from starclocks.rebuilt import all_logs, kept_right, rebuilt
from tests.helper import (BARE, HOUSES, LINE, NO_LOST, ODD, ONE_STAR, PIECES, ROAD, TIED, TRIANGLE, asks_kept,
                          full_house, hidden_by_words, inner_by_words, lost_cases, lost_tuples, marks_by_words,
                          names_by_words, part_at, plain, refuses, spoilt)

A = logs_of(LINE, (0, 1, 0))
KEPT = ((), (), ((1, (1, 1)),))
EMPTY = ((), (), ())
# The line of four hands of [18], only hand 3 kept.
FOUR = ((), (), (), ((2, (1, 2, 1)),))


def kept_of(logs, lost):
    """The logs without those of lost hands."""
    return tuple(() if hand in lost else log for hand, log in enumerate(logs))


class Rebuilt(unittest.TestCase):
    def test_the_example(self):
        self.assertEqual(rebuilt(LINE, KEPT, (0, 1)), ((0, (1, 0)),))

    def test_the_line_of_four_hands(self):
        self.assertEqual(rebuilt(TIED, FOUR, (0, 1, 2)), ((0, None), (1, None), (1, None)))

    def test_what_was_in_the_history(self):
        seen = set()
        for home, history, _, lost, kept in lost_cases(longest=25):
            inner, lone = inner_by_words(home, lost)
            called = names_by_words(home, history)
            found = marks_by_words(home, history)
            expected = {}
            for k in hidden_by_words(home, history, lost):
                of_part = [road for road in inner if part_at(home, road) == called[k][0]]
                if len(of_part) > 1:
                    expected[called[k]] = (None, None)
                elif of_part[0] in lone:
                    expected[called[k]] = (history[k], found[k])
                else:
                    expected[called[k]] = (history[k], None)
                seen.add((len(of_part), of_part[0] in lone))
            got = rebuilt(home, kept, lost)
            plain(self, got)
            self.assertEqual(got, tuple(expected[name] for name in sorted(expected)))
        self.assertEqual(seen, {(1, True), (1, False), (2, False), (3, False)})

    def test_two_met_histories_with_the_same_kept_logs(self):
        # What [18] says of the line of four hands: the mark of the first meeting of 1 and 2 is not fixed.
        one, two = logs_of(TIED, (0, 1, 1, 2)), logs_of(TIED, (1, 0, 1, 2))
        self.assertEqual(kept_of(one, (0, 1, 2)), FOUR)
        self.assertEqual(kept_of(two, (0, 1, 2)), FOUR)

    def test_hidden_ones_behind_one_another(self):
        history = (0, 0, 0, 1, 0, 0, 1, 0)
        logs = logs_of(LINE, history)
        self.assertEqual(rebuilt(LINE, ((), (), logs[2]), (0, 1)),
                         ((0, (1, 0)), (0, (2, 0)), (0, (3, 0)), (0, (4, 1)), (0, (5, 1))))
        # In one part with the kept ones the numbers between are theirs.
        logs = logs_of(ONE_STAR, history)
        self.assertEqual(rebuilt(ONE_STAR, ((), (), logs[2]), (0, 1)),
                         ((0, (1,)), (0, (2,)), (0, (3,)), (0, (5,)), (0, (6,))))

    def test_rows_of_both_hands_are_before(self):
        # Hands 0 and 1 are lost; each has met a kept one before they met.
        home = house(4, ((0, 1), (0, 2), (1, 3)), ((0,), (1,), (2,)))
        logs = logs_of(home, (1, 2, 2, 0, 1, 0, 2))
        self.assertEqual(rebuilt(home, kept_of(logs, (0, 1)), (0, 1)), ((0, (1, 1, 2)), (0, (2, 2, 2))))

    def test_several_inner_roads_in_a_triangle(self):
        home = house(4, ((0, 1), (0, 2), (1, 2), (2, 3)), ((0, 1, 2), (3,)))
        logs = logs_of(home, (0, 2, 1, 3))
        self.assertEqual(rebuilt(home, kept_of(logs, (0, 1, 2)), (0, 1, 2)), ((None, None),) * 3)
        self.assertEqual(rebuilt(home, kept_of(logs, (0, 1)), (0, 1)), ((0, (1, 0)),))

    def test_nothing_hidden(self):
        self.assertEqual(rebuilt(LINE, A, ()), ())
        self.assertEqual(rebuilt(LINE, EMPTY, (0, 1, 2)), ())
        self.assertEqual(rebuilt(lost=(0,), kept=EMPTY, house=BARE), ())

    def test_a_road_with_one_lost_hand(self):
        logs = logs_of(ROAD, (0, 0))
        self.assertEqual(rebuilt(ROAD, (logs[0], ()), (1,)), ())
        self.assertEqual(all_logs(ROAD, (logs[0], ()), (1,)), logs)

    def test_errors(self):
        asks_kept(self, rebuilt)


class AllLogs(unittest.TestCase):
    def test_the_example(self):
        self.assertEqual(all_logs(LINE, KEPT, (0, 1)),
                         (((1, (1, 0)),), ((0, (1, 0)), (2, (1, 1))), ((1, (1, 1)),)))

    def test_the_kept_and_the_sure_hidden_ones(self):
        many = 0
        for home, history, _, lost, kept in lost_cases(longest=25):
            inner, lone = inner_by_words(home, lost)
            if inner != lone:
                continue
            got = all_logs(home, kept, lost)
            plain(self, got)
            self.assertIs(logs_right(home, got), True)
            hidden = hidden_by_words(home, history, lost)
            standing = [k for k, road in enumerate(history) if not set(home.roads[road]) <= set(lost)]
            self.assertEqual(got, logs_of(home, tuple(history[k] for k in sorted(standing + hidden))))
            self.assertEqual(kept_of(got, lost), kept)
            many += len(hidden)
        self.assertGreater(many, 500)

    def test_200_meetings(self):
        history = (0, 0, 1) * 66 + (1, 1)
        logs = logs_of(LINE, history)
        self.assertEqual(all_logs(LINE, ((), (), logs[2]), (0, 1)), logs)
        self.assertEqual(all_logs(lost=(1,), kept=(logs[0], (), logs[2]), house=LINE), logs)

    def test_none_and_all(self):
        self.assertEqual(all_logs(LINE, A, ()), A)
        self.assertEqual(all_logs(PIECES, ((),) * 4, (0, 1, 2, 3)), ((),) * 4)
        self.assertEqual(all_logs(BARE, EMPTY, (0, 1, 2)), EMPTY)

    def test_inner_roads_that_meet(self):
        refuses(self, MetHand, 1, all_logs, TIED, FOUR, (0, 1, 2))
        refuses(self, MetHand, 2, all_logs, TIED, ((),) * 4, (1, 2, 3))
        refuses(self, MetHand, 1, all_logs, LINE, EMPTY, (0, 1, 2))
        refuses(self, MetHand, 0, all_logs, TRIANGLE, EMPTY, (0, 1, 2))
        for home in HOUSES:
            for lost in lost_tuples(home):
                inner, _ = inner_by_words(home, lost)
                met = [hand for hand in lost if sum(hand in home.roads[road] for road in inner) > 1]
                if met:
                    refuses(self, MetHand, met[0], all_logs, home, ((),) * home.n, lost)
                else:
                    self.assertEqual(all_logs(home, ((),) * home.n, lost), ((),) * home.n)

    def test_errors(self):
        asks_kept(self, all_logs)
        # Roads that meet are asked behind what is kept.
        refuses(self, BadLogs, (3, 1, 3), all_logs, TIED, FOUR[:3] + (FOUR[3] * 2,), (0, 1, 2))
        refuses(self, BadLogs, (1, 0, 0), all_logs, LINE, ((), ("x",), ()), (0, 1, 2))
        refuses(self, BadHand, 3, all_logs, LINE, ((), ("x",), ()), (0, 1, 2, 3))


class KeptRight(unittest.TestCase):
    def test_the_examples(self):
        self.assertIs(kept_right(ROAD, (((1, (5,)),), ()), (1,)), False)
        self.assertIs(kept_right(ROAD, (((1, (1,)), (1, (2,))), ()), (1,)), True)

    def test_what_is_kept_of_histories(self):
        seen = []
        for home, _, _, lost, kept in lost_cases(longest=25):
            inner, lone = inner_by_words(home, lost)
            got = kept_right(home, kept, lost)
            self.assertIs(got, inner == lone)
            seen.append(got)
        self.assertGreater(seen.count(True), 100)
        self.assertGreater(seen.count(False), 100)

    def test_just_what_is_kept_of_histories(self):
        for home, most, longest in ((ROAD, 3, 3), (ONE_STAR, 3, 2), (LINE, 2, 2)):
            roads = range(len(home.roads))
            left = [logs_of(home, history) for many in range(most * len(home.parts) + 1)
                    for history in product(roads, repeat=many)]
            marks = list(product(range(most + 1), repeat=len(home.parts)))
            for lost in lost_tuples(home):
                inner, lone = inner_by_words(home, lost)
                right = {kept_of(logs, lost) for logs in left} if inner == lone else set()
                sides = []
                for hand in range(home.n):
                    mates = [sum(road) - hand for road in home.roads if hand in road]
                    rows = [] if hand in lost else list(product(mates, marks))
                    sides.append([log for size in range(longest + 1) for log in product(rows, repeat=size)])
                if len(sides[0]) * len(sides[-1]) > 200:
                    sides = [side[:20] for side in sides]
                found = 0
                for kept in product(*sides):
                    self.assertIs(kept_right(home, kept, lost), kept in right)
                    found += kept in right
                self.assertEqual(found > 0, inner == lone)

    def test_spoilt_kept_logs(self):
        seen = []
        for home in (LINE, ONE_STAR, TRIANGLE, PIECES, TIED, house(3, TRIANGLE.roads, ((0, 1), (2,)))):
            roads = range(len(home.roads))
            left = [logs_of(home, history) for many in range(5) for history in product(roads, repeat=many)]
            chance = Random(len(left))
            for lost in lost_tuples(home):
                inner, lone = inner_by_words(home, lost)
                right = {kept_of(logs, lost) for logs in left}
                for kept in sorted(right)[:60]:
                    self.assertIs(kept_right(home, kept, lost), inner == lone)
                    other = spoilt(chance, home, kept)
                    tops = [0] * len(home.parts)
                    try:
                        for log in other:
                            for _, mark in log:
                                tops = [max(a, b) for a, b in zip(tops, mark)]
                    except (TypeError, ValueError):
                        self.assertIs(kept_right(home, other, lost), False)
                        continue
                    if sum(tops) <= 4:
                        got = kept_right(home, other, lost)
                        self.assertIs(got, inner == lone and other in right, (home.roads, other, lost))
                        seen.append(got)
        self.assertGreater(seen.count(True), 40)
        self.assertGreater(seen.count(False), 200)

    def test_values_of_any_form(self):
        for odd in ODD + (0, 3, "xyz", ("", "", ""), ((), "", ()), (0, 0, 0), ((), ()), ((),) * 4, A[:2], (A,)):
            self.assertIs(kept_right(LINE, odd, (0, 1)), False)
            self.assertIs(kept_right(LINE, odd, odd), False)
            self.assertIs(kept_right(LINE, ((), (), (odd,)), (0, 1)), False)
            self.assertIs(kept_right(LINE, ((), (), ((1, odd),)), (0, 1)), False)
            self.assertIs(kept_right(LINE, ((), (), ((odd, (1, 1)),)), (0, 1)), False)
            self.assertIs(kept_right(LINE, ((), (), ((1, (1, odd)),)), (0, 1)), False)
            self.assertIs(kept_right(LINE, ((odd,), (), ()), (0, 1)), False)
        for odd in ODD + (0, 3, "01", ("0", "1"), (False,), (0, True), (0, 1, 2, 3), ((0,), 1)):
            if odd not in ((), (0,)):
                self.assertIs(kept_right(LINE, EMPTY, odd), False)
        for lost, _ in NO_LOST:
            self.assertIs(kept_right(LINE, EMPTY, lost), False)
        self.assertIs(kept_right(LINE, EMPTY, ()), True)
        self.assertIs(kept_right(LINE, EMPTY, (0,)), True)
        self.assertIs(kept_right(lost=(0, 1, 2), kept=EMPTY, house=BARE), True)

    def test_inner_roads_that_meet(self):
        self.assertIs(kept_right(TIED, FOUR, (0, 1, 2)), False)
        self.assertIs(kept_right(LINE, EMPTY, (0, 1, 2)), False)

    def test_refused_ones(self):
        self.assertIs(kept_right(LINE, A, (0, 1)), False)
        self.assertIs(kept_right(LINE, ((), (), KEPT[2] * 2), (0, 1)), False)
        self.assertIs(kept_right(LINE, (A[0], A[1][:2], ()), (2,)), False)
        self.assertIs(kept_right(LINE, KEPT, (0, 1)), True)

    def test_hidden_ones_without_an_inner_road(self):
        # Part 0 would have had a meeting, but none of its roads is inner.
        self.assertIs(kept_right(LINE, ((), (), ((1, (1, 1)),)), (1,)), False)
        self.assertIs(kept_right(LINE, ((), A[1][1:2], A[2]), (0,)), False)
        self.assertIs(kept_right(LINE, KEPT, (0, 1)), True)

    def test_all_logs_that_are_not_right(self):
        # Two meetings of the kept hands, of which the later one has no mark that is made.
        self.assertIs(kept_right(LINE, (((1, (1, 1)),), ((0, (1, 1)),), ()), (2,)), False)
        # The same name in two kept logs.
        self.assertIs(kept_right(LINE, (((1, (1, 0)),), (), ((1, (1, 0)),)), (1,)), False)
        self.assertIs(kept_right(LINE, (((1, (0, 0)),), (), ()), (1,)), False)

    def test_200_and_201_meetings(self):
        logs = logs_of(LINE, (0, 0, 1) * 66 + (1, 1))
        self.assertIs(kept_right(LINE, ((), (), logs[2]), (0, 1)), True)
        self.assertIs(kept_right(LINE, ((), (), logs[2] + ((1, (132, 69)),)), (0, 1)), False)
        two = tuple((1, (k,)) for k in range(1, 201))
        self.assertIs(kept_right(ROAD, (two, ()), (1,)), True)
        # One kept row tells of many meetings ahead of it, on one road, and is one more itself.
        self.assertIs(kept_right(LINE, ((), (), ((1, (199, 1)),)), (0, 1)), True)
        self.assertIs(kept_right(LINE, ((), (), ((1, (200, 1)),)), (0, 1)), False)

    def test_great_values(self):
        home = full_house()
        top = (200,) * 45
        lost = tuple(range(1, 10, 2))
        rows = tuple((1, tuple(200 if q < k else k - 45 * (k // 45) for q in range(45))) for k in range(45))
        self.assertIs(kept_right(home, (((1, top),),) + ((),) * 9, lost), False)
        self.assertIs(kept_right(home, (rows,) + ((),) * 9, lost), False)
        long = tuple((1, (k, 200)) for k in range(1, 201)) + tuple((1, (200, k)) for k in range(201))
        self.assertIs(kept_right(LINE, ((), (), long), (0, 1)), False)
        ten = house(10, tuple((k, k + 1) for k in range(9)), tuple((k,) for k in range(9)))
        pairs = (0, 1, 3, 4, 6, 7)
        self.assertIs(kept_right(ten, tuple(() if h in pairs else ((9 if h == 8 else h - 1, (200,) * 9),)
                                            for h in range(10)), pairs), False)


if __name__ == "__main__":
    unittest.main()
