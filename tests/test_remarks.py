"""[22] remarked."""

import unittest
from random import Random

from starclocks.errors import BadMeeting, TooMany
from starclocks.histories import is_history
from starclocks.logs import logs_of
from starclocks.logsjudge import fault
from starclocks.parts import house
from starclocks.remarks import remarked
from tests.helper import (BARE, HOUSES, LINE, ONE_STAR, PIECES, ROAD, TIED, TRIANGLE, full_house, plain, refuses,
                          some_histories)

A = logs_of(LINE, (0, 1, 0))


def mates_of_logs(logs):
    return tuple(tuple(mate for mate, _ in log) for log in logs)


def history_by_words(home, mates, chance):
    """The meetings, by roads, that are taken in some order as long as one can be taken."""
    rows = [0] * home.n
    history = []
    while True:
        nexts = [mates[hand][rows[hand]] if rows[hand] < len(mates[hand]) else None for hand in range(home.n)]
        ready = [road for road, (one, two) in enumerate(home.roads) if nexts[one] == two and nexts[two] == one]
        if not ready:
            return tuple(history)
        history.append(chance.choice(ready))
        for hand in home.roads[history[-1]]:
            rows[hand] += 1


class Remarked(unittest.TestCase):
    def test_the_examples(self):
        self.assertEqual(remarked(LINE, ((1, 1), (0, 2, 0), (1,))), (A, (2, 3, 1)))
        self.assertEqual(remarked(LINE, ((1, 1), (2, 0, 0), (1,))),
                         ((((1, (1, 1)), (1, (2, 1))), ((2, (0, 1)), (0, (1, 1)), (0, (2, 1))), ((1, (0, 1)),)),
                          (2, 3, 1)))

    def test_right_logs_come_back(self):
        for home in HOUSES + (TIED, full_house()):
            for history in some_histories(home, longest=80):
                logs = logs_of(home, history)
                got = remarked(home, mates_of_logs(logs))
                plain(self, got)
                self.assertEqual(got, (logs, tuple(len(log) for log in logs)))

    def test_what_can_be_taken(self):
        parts = 0
        for home in HOUSES + (TIED, full_house()):
            chance = Random(home.n)
            for _ in range(60):
                mates = []
                for hand in range(home.n):
                    near = [sum(road) - hand for road in home.roads if hand in road]
                    mates.append(tuple(chance.choice(near) for _ in range(chance.randint(0, 6) if near else 0)))
                history = history_by_words(home, mates, chance)
                self.assertTrue(is_history(home, history))
                logs, heads = remarked(home, tuple(mates))
                self.assertEqual(logs, logs_of(home, history))
                self.assertEqual(heads, tuple(len(log) for log in logs))
                self.assertIsNone(fault(home, logs))
                for log, own in zip(logs, mates):
                    self.assertEqual(tuple(mate for mate, _ in log), own[:len(log)])
                parts += 0 < sum(heads) < sum(map(len, mates))
        self.assertGreater(parts, 100)

    def test_spoilt_mates(self):
        for home in HOUSES:
            chance = Random(home.n)
            for history in some_histories(home, longest=20):
                mates = [list(own) for own in mates_of_logs(logs_of(home, history))]
                own = chance.choice([m for m in mates if m] or [[]])
                if own:
                    del own[chance.randrange(len(own))]
                mates = tuple(map(tuple, mates))
                taken = history_by_words(home, mates, chance)
                self.assertEqual(remarked(home, mates)[0], logs_of(home, taken))

    def test_nothing_can_be_taken(self):
        self.assertEqual(remarked(ROAD, ((1,), ())), (((), ()), (0, 0)))
        self.assertEqual(remarked(TRIANGLE, ((1,), (2,), (0,))), (((), (), ()), (0, 0, 0)))
        self.assertEqual(remarked(ONE_STAR, ((1, 1), (2, 0), (1,))),
                         ((((1, (2,)),), ((2, (1,)), (0, (2,))), ((1, (1,)),)), (1, 2, 1)))

    def test_without_mates(self):
        self.assertEqual(remarked(LINE, ((), (), ())), (((), (), ()), (0, 0, 0)))
        self.assertEqual(remarked(BARE, ((), (), ())), (((), (), ()), (0, 0, 0)))
        self.assertEqual(remarked(house(1, (), ()), ((),)), (((),), (0,)))

    def test_400_and_401_mates(self):
        self.assertEqual(remarked(ROAD, ((1,) * 200, (0,) * 200)), (logs_of(ROAD, (0,) * 200), (200, 200)))
        self.assertEqual(remarked(ROAD, ((1,) * 399, (0,))), (logs_of(ROAD, (0,)), (1, 1)))
        self.assertEqual(remarked(ROAD, ((1,) * 400, ())), (((), ()), (0, 0)))
        refuses(self, TooMany, 401, remarked, ROAD, ((1,) * 201, (0,) * 200))
        refuses(self, TooMany, 401, remarked, ROAD, ((1,) * 401, ()))
        refuses(self, TooMany, 20000, remarked, PIECES, ((), (), (), (2,) * 20000))
        # Ahead of all else.
        refuses(self, TooMany, 401, remarked, ROAD, ((7,) * 401, ()))

    def test_no_mates(self):
        for odd in (0, 2, 3, -1, -2, 10 ** 30, -10 ** 30):
            refuses(self, BadMeeting, (0, 0), remarked, LINE, ((odd, 1), (0,), ()))
            refuses(self, BadMeeting, (0, 1), remarked, LINE, ((1, odd), (9,), (9,)))
            refuses(self, BadMeeting, (0, 399), remarked, LINE, ((1,) * 399 + (odd,), (), ()))
        for odd in (1, 3, -1):
            refuses(self, BadMeeting, (1, 2), remarked, LINE, ((1, 1), (0, 2, odd, 9), (9,)))
        refuses(self, BadMeeting, (2, 0), remarked, LINE, ((1,), (0,), (0,)))
        refuses(self, BadMeeting, (2, 0), remarked, BARE, ((), (), (0,)))
        refuses(self, BadMeeting, (1, 0), remarked, PIECES, ((1,), (2,), (3,), (2,)))
        refuses(self, BadMeeting, (0, 0), remarked, mates=((0,), (0,)), house=ROAD)


if __name__ == "__main__":
    unittest.main()
