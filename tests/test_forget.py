"""[26] common_cut and may_forget."""

import unittest

from starclocks.cuts import is_cut
from starclocks.errors import BadHand
from starclocks.forget import common_cut, may_forget
from starclocks.logs import logs_of
from starclocks.parts import house
from tests.helper import (BARE, HOUSES, LINE, PIECES, ROAD, TIED, TWO_PIECES, asks_right_logs, full_house,
                          names_by_words, pasts, plain, refuses, some_histories, two_roads, within)
from tests.test_knows import last_marks, tables_by_words

A = logs_of(LINE, (0, 1, 0))
EMPTY = ((), (), ())


def piece_of(home, hand):
    """All hands to which roads lead from the hand, itself as well."""
    found = {hand}
    for _ in range(home.n):
        found |= {other for road in home.roads if set(road) & found for other in road}
    return found


def least_by_words(home, vectors):
    """For each part the least entry for it of the hands of its piece."""
    found = []
    for q, part in enumerate(home.parts):
        found.append(min(vectors[hand][q] for hand in piece_of(home, home.roads[part[0]][0])))
    return tuple(found)


class Forget(unittest.TestCase):
    def test_the_examples(self):
        self.assertEqual(common_cut(LINE, A), (1, 1))
        self.assertEqual(may_forget(LINE, A, 0), (1, 1))
        self.assertEqual(may_forget(LINE, A, 1), (1, 1))
        self.assertEqual(may_forget(LINE, A, 2), (1, 0))

    def test_word_by_word(self):
        seen = set()
        for home in HOUSES + (TIED, full_house()):
            for history in some_histories(home, many=8, longest=120):
                logs = logs_of(home, history)
                least = common_cut(home, logs)
                plain(self, least)
                self.assertEqual(least, least_by_words(home, last_marks(home, history)))
                self.assertIs(is_cut(home, logs, least), True)
                tables = tables_by_words(home, history)
                for hand in range(home.n):
                    got = may_forget(home, logs, hand)
                    plain(self, got)
                    self.assertEqual(got, least_by_words(home, tables[hand]))
                    self.assertIs(is_cut(home, logs, got), True)
                    self.assertTrue(within(got, least))
                    for q, part in enumerate(home.parts):
                        if hand not in piece_of(home, home.roads[part[0]][0]):
                            self.assertEqual(got[q], 0)
                    seen.add((sum(got) > 0, sum(got) < sum(least)))
        self.assertEqual(len(seen), 4)

    def test_what_all_hands_of_the_piece_have_heard_of(self):
        for home in HOUSES + (TIED,):
            for history in some_histories(home, longest=30):
                before = pasts(home, history)
                heard = [set() for _ in range(home.n)]
                for k, road in enumerate(history):
                    for hand in home.roads[road]:
                        heard[hand] = before[k] | {k}
                cut = common_cut(home, logs_of(home, history))
                for k, (q, i) in enumerate(names_by_words(home, history)):
                    piece = piece_of(home, home.roads[history[k]][0])
                    self.assertEqual(i <= cut[q], all(k in heard[hand] for hand in piece))

    def test_pieces_apart(self):
        logs = two_roads(5, 3)
        self.assertEqual(common_cut(PIECES, logs), (5, 3))
        self.assertEqual([may_forget(PIECES, logs, hand) for hand in range(4)], [(5, 0), (5, 0), (0, 3), (0, 3)])
        # A hand without a meeting keeps back its own piece alone.
        logs = logs_of(TWO_PIECES, (0, 1, 2, 0, 3, 3, 4, 4, 5))
        self.assertEqual(common_cut(TWO_PIECES, logs), (3, 2, 0, 0))
        # Pieces whose roads tie their least hands last.
        home = house(6, ((0, 5), (1, 2), (2, 5), (3, 4)), ((0, 2), (1,), (3,)))
        logs = logs_of(home, (0, 1, 2, 0, 1, 3))
        self.assertEqual(common_cut(home, logs), least_by_words(home, last_marks(home, (0, 1, 2, 0, 1, 3))))
        self.assertEqual(common_cut(home, logs), (2, 1, 1))

    def test_without_meetings(self):
        self.assertEqual(common_cut(LINE, EMPTY), (0, 0))
        self.assertEqual(may_forget(LINE, EMPTY, 1), (0, 0))
        self.assertEqual(common_cut(BARE, EMPTY), ())
        self.assertEqual(may_forget(BARE, EMPTY, 2), ())
        one = house(1, (), ())
        self.assertEqual((common_cut(one, ((),)), may_forget(one, ((),), 0)), ((), ()))
        logs = logs_of(LINE, (0,) * 5)
        self.assertEqual((common_cut(LINE, logs), may_forget(LINE, logs, 0)), ((0, 0), (0, 0)))

    def test_200_meetings(self):
        logs = logs_of(ROAD, (0,) * 200)
        self.assertEqual(common_cut(ROAD, logs), (200,))
        self.assertEqual(may_forget(hand=1, logs=logs, house=ROAD), (200,))
        logs = logs_of(LINE, (0, 1) * 100)
        self.assertEqual(common_cut(logs=logs, house=LINE), (100, 99))
        self.assertEqual([may_forget(LINE, logs, hand) for hand in range(3)], [(99, 99), (100, 99), (100, 99)])

    def test_errors(self):
        for odd in (-1, 3, -3, 10, 10 ** 30):
            refuses(self, BadHand, odd, may_forget, LINE, A, odd)
        refuses(self, BadHand, 1, may_forget, house(1, (), ()), ((),), 1)
        asks_right_logs(self, common_cut)
        asks_right_logs(self, may_forget, 0)
        asks_right_logs(self, may_forget, -1)


if __name__ == "__main__":
    unittest.main()
