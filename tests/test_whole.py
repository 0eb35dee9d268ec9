"""[0.3] (a) to (d), and [0.1], [0.2], over the whole program: what the files promise together."""

import unittest
from itertools import product
from random import Random

from starclocks import errors
from starclocks.asks import ahead
from starclocks.copies import common, joined
from starclocks.cutlooks import cut_of_rows
from starclocks.forget import common_cut, may_forget
from starclocks.grow import grown
from starclocks.heads import head, mended, stuck
from starclocks.housetext import house_of, house_text
from starclocks.live import Live
from starclocks.logs import logs_of
from starclocks.logsjudge import fault, logs_right
from starclocks.logstext import logs_of_text, logs_text
from starclocks.lost import kept_logs
from starclocks.marks import marks
from starclocks.merged import history_of
from starclocks.orders import nth_order, order_rank
from starclocks.parts import house
from starclocks.rebuilt import all_logs, kept_right
from starclocks.remarks import remarked
from starclocks.saved import line, saved_right
from starclocks.slices import forgotten, sliced
from starclocks.strikes import struck
from starclocks.webs import some_parts
from tests.helper import (HOUSES, NO_ROWS, ODD, PIECES, TIED, TRIANGLE, inner_by_words, pasts, plain, some_histories,
                          spoilt)
from tests.test_live import grow_ways, some_deed
from tests.test_remarks import history_by_words, mates_of_logs


def grown_house(chance):
    """A house that grew by some roads from one hand."""
    home = house(1, (), ())
    for _ in range(chance.randint(1, 16)):
        ways = grow_ways(home)
        home = grown(home, *chance.choice(ways))[0]
    return home


def many_houses():
    """Houses of the helper, some that have grown, and some whose parts are found."""
    chance = Random(3)
    found = list(HOUSES + (TIED,)) + [grown_house(chance) for _ in range(12)]
    for _ in range(6):
        n = chance.randint(2, 10)
        pairs = [(a, b) for a in range(n) for b in range(a + 1, n)]
        roads = tuple(sorted(chance.sample(pairs, chance.randint(1, len(pairs)))))
        found.append(house(n, roads, some_parts(n, roads)))
    return found


def left_by_a_history(home, logs):
    """Whether some history leaves these logs, all rows by form: the mates alone tell what met in which order."""
    history = history_by_words(home, mates_of_logs(logs), Random(0))
    return len(history) <= 200 and logs_of(home, history) == logs


class Ahead(unittest.TestCase):
    def test_a_meetings_are_ahead_as_their_marks_are(self):
        seen = set()
        for home in many_houses():
            for history in some_histories(home, many=3, longest=45):
                before = pasts(home, history)
                found = marks(home, history)
                for j, one in enumerate(found):
                    for k, two in enumerate(found):
                        self.assertIs(ahead(one, two), j in before[k])
                        seen.add((j in before[k], j < k))
        self.assertEqual(seen, {(True, True), (False, True), (False, False)})

    def test_a_in_a_live_house_behind_all_deeds(self):
        for home in many_houses():
            chance = Random(house_text(home))
            live = Live(home)
            for _ in range(30):
                deed = some_deed(chance, live.house(), history_of(live.house(), live.logs()))
                if deed is not None:
                    getattr(live, deed[0])(*deed[1])
            history = history_of(live.house(), live.logs())
            self.assertEqual(logs_of(live.house(), history), live.logs())
            found = marks(live.house(), history)
            before = pasts(live.house(), history)
            for j, one in enumerate(found):
                for k, two in enumerate(found):
                    self.assertIs(ahead(one, two), j in before[k])


class Right(unittest.TestCase):
    def right(self, home, logs):
        self.assertIs(logs_right(home, logs), True)
        self.assertEqual(logs_of(home, history_of(home, logs)), logs)
        self.assertTrue(left_by_a_history(home, logs))

    def test_b_just_what_histories_leave_is_right(self):
        seen = []
        for home in many_houses():
            chance = Random(house_text(home))
            for history in some_histories(home, many=6, longest=25):
                logs = logs_of(home, history)
                self.right(home, logs)
                for _ in range(6):
                    other = spoilt(chance, home, logs)
                    found = fault(home, other)
                    if found is not None and found[2] == 0:
                        self.assertIs(logs_right(home, other), False)
                    else:
                        seen.append(left_by_a_history(home, other))
                        self.assertIs(logs_right(home, other), seen[-1])
        self.assertGreater(seen.count(True), 20)
        self.assertGreater(seen.count(False), 300)

    def test_b_all_small_logs_of_a_part_of_two_roads(self):
        home = house(3, ((0, 1), (1, 2)), ((0, 1),))
        rows = [[(1, (k,)) for k in range(4)], [(mate, (k,)) for mate in (0, 2) for k in range(4)]]
        sides = [[log for size in range(3) for log in product(own, repeat=size)] for own in rows]
        many = 0
        for logs in product(sides[0], sides[1], sides[0]):
            self.assertIs(logs_right(home, logs), left_by_a_history(home, logs))
            many += logs_right(home, logs)
        self.assertEqual(many, 7)

    def test_b_what_is_returned_as_right_logs(self):
        for home in many_houses():
            chance = Random(house_text(home))
            for history in some_histories(home, many=4, longest=40):
                logs = logs_of(home, history)
                rows = tuple(chance.randint(0, len(log)) for log in logs)
                low = cut_of_rows(home, logs, rows)
                self.right(home, forgotten(home, logs, low))
                self.right(home, sliced(home, logs, (0,) * len(home.parts), low))
                self.right(home, forgotten(home, logs, common_cut(home, logs)))
                self.right(home, forgotten(home, logs, may_forget(home, logs, chance.randrange(home.n))))
                self.right(home, remarked(home, mates_of_logs(logs))[0])
                early, late = logs_of(home, history[:len(history) // 2]), logs
                self.right(home, common(home, early, late))
                self.assertEqual(joined(home, early, late), late)
                saved = tuple((0,) + tuple(k for k in range(1, len(log) + 1) if k & 1) for log in logs)
                self.assertIs(saved_right(home, logs, saved), True)
                self.right(home, sliced(home, logs, (0,) * len(home.parts), line(home, logs, saved)))
                lost = tuple(sorted(chance.sample(range(home.n), chance.randint(0, home.n))))
                inner, lone = inner_by_words(home, lost)
                if inner == lone:
                    kept = kept_logs(home, logs, lost)
                    self.assertIs(kept_right(home, kept, lost), True)
                    self.right(home, all_logs(home, kept, lost))
                self.right(home, logs_of(home, nth_order(home, early, 0)) if len(history) < 8 else early)
                if len(history) < 8:
                    self.assertEqual(order_rank(home, early, nth_order(home, early, 0)), 0)

    def test_b_what_is_mended(self):
        for home in many_houses():
            chance = Random(house_text(home))
            for history in some_histories(home, many=5, longest=25):
                logs = logs_of(home, history)
                other = spoilt(chance, home, logs)
                found = fault(home, other)
                if found is None or found[2] != 0:
                    self.right(home, mended(home, other))
                    self.assertEqual(all(why is None for why in stuck(home, other)), found is None)
                    self.assertEqual(sum(head(home, other)) == sum(map(len, other)), found is None)

    def test_b_what_is_left_by_a_strike(self):
        for home in many_houses():
            for history in some_histories(home, many=4, longest=12):
                logs = logs_of(home, history)
                live = Live(home)
                for road in history:
                    live.meet(road)
                if history:
                    cut, names = struck(home, logs, live.last())
                    self.assertEqual(names, (live.last(),))
                    live.strike(live.last())
                    self.assertEqual(live.logs(), sliced(home, logs, (0,) * len(home.parts), cut))


class LiveHouses(unittest.TestCase):
    def tries(self, chance, live):
        """Any deed with any argument, most of them refused; what is refused changes nothing."""
        odd = ODD + (0, 1, 2, 3, -1, (0, 1), (1, 1), (0, 0), (0, 0, 0), (1, 0), (1, 2))
        kind = chance.choice(("meet", "strike", "forget", "grow", "lose", "undo", "redo", "whole"))
        numbers = tuple(chance.randint(-1, 4) for _ in range(3))
        cut = tuple(chance.randint(0, 2) for _ in live.house().parts)
        told = {"meet": numbers[:1], "strike": (chance.choice(odd),), "whole": (chance.choice(odd),),
                "forget": (cut,), "grow": numbers, "lose": (numbers[:chance.randint(0, 3)],), "undo": (), "redo": ()}
        before = house_text(live.house()), live.logs(), live.base(), live.last()
        try:
            getattr(live, kind)(*told[kind])
        except errors.Refused:
            self.assertEqual((house_text(live.house()), live.logs(), live.base(), live.last()), before)
            return False
        return True

    def test_c_logs_are_always_right(self):
        done = 0
        for number, home in enumerate(many_houses()):
            chance = Random(number)
            live = Live(home)
            for _ in range(150):
                if chance.random() < 0.6:
                    done += self.tries(chance, live)
                else:
                    deed = some_deed(chance, live.house(), history_of(live.house(), live.logs()))
                    if deed is not None:
                        getattr(live, deed[0])(*deed[1])
                self.assertIs(logs_right(live.house(), live.logs()), True)
        self.assertGreater(done, 300)


class Texts(unittest.TestCase):
    def test_d_read_back_as_written_and_written_as_read(self):
        for home in many_houses():
            text = house_text(home)
            again = house_of(text)
            self.assertEqual(again, home)
            self.assertEqual(house_text(again), text)
            chance = Random(text)
            for history in some_histories(home, many=4, longest=60):
                logs = logs_of(home, history)
                for value in (logs, mended(home, logs), spoilt(chance, home, logs)):
                    found = fault(home, value)
                    if found is None or found[2] != 0:
                        told = logs_text(home, value)
                        self.assertEqual(logs_of_text(again, told), value)
                        self.assertEqual(logs_text(again, logs_of_text(home, told)), told)

    def test_d_of_live_houses(self):
        for home in many_houses():
            chance = Random(house_text(home))
            live = Live(home)
            for _ in range(25):
                deed = some_deed(chance, live.house(), history_of(live.house(), live.logs()))
                if deed is not None:
                    getattr(live, deed[0])(*deed[1])
            again = house_of(house_text(live.house()))
            self.assertEqual(again, live.house())
            self.assertEqual(logs_of_text(again, logs_text(again, live.logs())), live.logs())


class Judges(unittest.TestCase):
    def test_judges_raise_nothing(self):
        wide = (((0,) * 300,) * 300,)
        for odd in NO_ROWS + (wide, wide * 3, ("x" * 1000,), (wide, wide)):
            for home in (PIECES, TRIANGLE):
                empty = ((),) * home.n
                self.assertIs(saved_right(home, odd, odd), False)
                self.assertIs(saved_right(home, empty, odd), False)
                self.assertIs(saved_right(home, empty, (odd,) * home.n), odd == (0,))
                self.assertIs(saved_right(home, (odd,) * home.n, ((0,),) * home.n), odd == ())
                self.assertIs(logs_right(home, ((odd,),) * home.n), False)

    def test_what_is_returned_is_plain(self):
        for home in many_houses()[:12]:
            for history in some_histories(home, many=2, longest=20):
                logs = logs_of(home, history)
                plain(self, (history_of(home, logs), head(home, logs), stuck(home, logs), common_cut(home, logs)))


if __name__ == "__main__":
    unittest.main()
