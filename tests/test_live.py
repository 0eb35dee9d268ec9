"""[29] Live; [0.1]: a deed that raises an error changes nothing; [0.3] (c)."""

import unittest
from random import Random

from starclocks.errors import (BadCut, BadHand, BadMeeting, BadPart, BadRoad, BadSize, MetHand, NothingToRedo,
                               NothingToUndo, TooMany)
from starclocks.live import Live
from starclocks.logs import logs_of
from starclocks.logsjudge import logs_right
from starclocks.parts import house
from tests.helper import (BARE, HOUSES, LINE, ODD, PIECES, ROAD, TIED, TRIANGLE, cuts_by_words, full_house,
                          hidden_by_words, inner_by_words, marks_by_words, names_by_words, part_at, pasts, plain,
                          refuses)

ONE_HAND = house(1, (), ())


def led(home, *roads):
    """A live house in which these roads have met."""
    live = Live(home)
    for road in roads:
        live.meet(road)
    return live


def state(live):
    """All that can be read of a live house."""
    home = live.house()
    return (home.n, home.roads, home.parts), live.logs(), live.base(), live.last()


class Model:
    """A live house by words: a history instead of logs, and every moment kept."""

    def __init__(self, home):
        self.past = [(home, (), (0,) * len(home.parts))]
        self.later = []

    def now(self):
        return self.past[-1]

    def does(self, home, history, base):
        self.past.append((home, tuple(history), tuple(base)))
        self.later = []

    def meet(self, road):
        home, history, base = self.now()
        self.does(home, history + (road,), base)

    def strike(self, name):
        home, history, base = self.now()
        at = names_by_words(home, history).index(name)
        before = pasts(home, history)
        self.does(home, [road for k, road in enumerate(history) if k != at and at not in before[k]], base)

    def forget(self, cut):
        home, history, base = self.now()
        called = names_by_words(home, history)
        self.does(home, [road for road, (q, i) in zip(history, called) if i > cut[q]],
                  [a + b for a, b in zip(base, cut)])

    def grow(self, a, b, part):
        home, history, base = self.now()
        roads = tuple(sorted(home.roads + ((a, b),)))
        owns = [[home.roads[i] for i in own] for own in home.parts] + [[]]
        owns[part].append((a, b))
        parts = sorted(tuple(sorted(roads.index(road) for road in own)) for own in owns if own)
        new = house(max(home.n, b + 1), roads, tuple(parts))
        moved = [0] * len(parts)
        for q, own in enumerate(home.parts):
            moved[part_at(new, roads.index(home.roads[own[0]]))] = base[q]
        self.does(new, [roads.index(home.roads[road]) for road in history], moved)

    def lose(self, lost):
        home, history, base = self.now()
        staying = set(hidden_by_words(home, history, lost))
        self.does(home, [road for k, road in enumerate(history)
                         if k in staying or not set(home.roads[road]) <= set(lost)], base)

    def undo(self):
        self.later.append(self.past.pop())

    def redo(self):
        self.past.append(self.later.pop())

    def state(self):
        home, history, base = self.now()
        found = [(sum(mark), road, name) for mark, road, name
                 in zip(marks_by_words(home, history), history, names_by_words(home, history))]
        last = max(found)[2] if found else None
        return (home.n, home.roads, home.parts), logs_of(home, history), base, last


def grow_ways(home):
    """All (a, b, part) with which a house can grow."""
    found = []
    for a in range(home.n):
        for b in range(a + 1, min(home.n + 1, 10)):
            for part in range(len(home.parts) + 1):
                own = [home.roads[i] for i in home.parts[part]] if part < len(home.parts) else []
                hands = {hand for road in own for hand in road} | {a, b}
                star = any(all(hand in road for road in own + [(a, b)]) for hand in hands)
                if (a, b) not in home.roads and (star or len(own) == 2 and len(hands) == 3):
                    found.append((a, b, part))
    return found


def some_deed(chance, home, history):
    """The name of a deed and what it is told, fit for a live house as it stands; None where there is none."""
    kind = chance.choice(("meet",) * 6 + ("strike", "forget", "grow", "lose"))
    if kind == "meet" and home.roads:
        return kind, (chance.randrange(len(home.roads)),)
    if kind == "strike" and history:
        return kind, (chance.choice(names_by_words(home, history)),)
    if kind == "forget":
        called = names_by_words(home, history)
        before = pasts(home, history)
        inside = set()
        for k in chance.sample(range(len(history)), min(len(history), chance.choice((0, 1, 1, 2)))):
            inside |= before[k] | {k}
        names = [called[k][0] for k in inside]
        return kind, (tuple(names.count(q) for q in range(len(home.parts))),)
    if kind == "grow" and grow_ways(home) and chance.random() < 0.5:
        return kind, chance.choice(grow_ways(home))
    if kind == "lose":
        lost = tuple(sorted(chance.sample(range(home.n), chance.randint(0, home.n))))
        inner, lone = inner_by_words(home, lost)
        if inner == lone:
            return kind, (lost,)
    return None


class Led(unittest.TestCase):
    def stands(self, live, model):
        """The live house is as the model is."""
        self.assertEqual(state(live), model.state())
        self.assertIs(logs_right(live.house(), live.logs()), True)
        plain(self, state(live)[1:])
        home, history, base = model.now()
        for q, i in names_by_words(home, history)[-3:]:
            self.assertEqual(live.whole((q, i)), (q, base[q] + i))

    def test_all_deeds_in_many_orders(self):
        done = []
        for home in HOUSES + (TIED, BARE, ONE_HAND):
            for many in range(6):
                chance = Random(f"{home.roads} {many}")
                live, model = Live(home), Model(home)
                self.stands(live, model)
                for _ in range(60):
                    deed = some_deed(chance, *model.now()[:2])
                    if chance.random() < 0.2 and len(model.past) > 1:
                        deed = ("undo", ())
                    elif chance.random() < 0.15 and model.later:
                        deed = ("redo", ())
                    if deed is not None:
                        self.assertIsNone(getattr(live, deed[0])(*deed[1]))
                        getattr(model, deed[0])(*deed[1])
                        self.stands(live, model)
                        done.append(deed[0])
        for kind in ("meet", "strike", "forget", "grow", "lose", "undo", "redo"):
            self.assertGreater(done.count(kind), 80, kind)

    def test_undone_to_the_beginning_and_redone_to_the_end(self):
        for home in HOUSES:
            chance = Random(home.n)
            live, model = Live(home), Model(home)
            while len(model.past) < 60:
                deed = some_deed(chance, *model.now()[:2])
                if deed is not None:
                    getattr(live, deed[0])(*deed[1])
                    getattr(model, deed[0])(*deed[1])
            states = [state(live)]
            while len(model.past) > 1:
                live.undo()
                model.undo()
                self.stands(live, model)
                states.append(state(live))
            refuses(self, NothingToUndo, 0, live.undo)
            for expected in reversed(states[:-1]):
                live.redo()
                self.assertEqual(state(live), expected)
            refuses(self, NothingToRedo, 0, live.redo)
            self.assertEqual(state(live), states[0])

    def test_many_meetings(self):
        home = full_house()
        chance = Random(29)
        roads = tuple(chance.randrange(45) for _ in range(200))
        live = led(home, *roads)
        self.assertEqual(live.logs(), logs_of(home, roads))
        self.assertEqual(live.base(), (0,) * 45)


class Beginning(unittest.TestCase):
    def test_empty_logs_and_a_base_of_0(self):
        for home in HOUSES + (BARE, ONE_HAND, full_house()):
            live = Live(home)
            self.assertEqual(live.house(), home)
            self.assertEqual(live.logs(), ((),) * home.n)
            self.assertEqual(live.base(), (0,) * len(home.parts))
            self.assertIsNone(live.last())
            refuses(self, NothingToUndo, 0, live.undo)
            refuses(self, NothingToRedo, 0, live.redo)
        self.assertEqual(Live(house=LINE).house(), LINE)

    def test_one_hand_and_no_road(self):
        live = Live(ONE_HAND)
        refuses(self, BadRoad, 0, live.meet, 0)
        refuses(self, BadMeeting, (0, 1), live.strike, (0, 1))
        live.forget(())
        live.lose((0,))
        self.assertEqual(state(live), ((1, (), ()), ((),), (), None))
        live.grow(0, 1, 0)
        live.meet(0)
        self.assertEqual(state(live), ((2, ((0, 1),), ((0,),)), (((1, (1,)),), ((0, (1,)),)), (0,), (0, 1)))
        for _ in range(4):
            live.undo()
        self.assertEqual(state(live), ((1, (), ()), ((),), (), None))
        refuses(self, NothingToUndo, 0, live.undo)

    def test_two_live_houses_are_apart(self):
        one, two = Live(LINE), Live(LINE)
        one.meet(0)
        self.assertEqual(two.logs(), ((), (), ()))
        refuses(self, NothingToUndo, 0, two.undo)
        self.assertEqual(one.last(), (0, 1))

    def test_what_was_read_stays_as_it_was(self):
        live = led(LINE, 0, 1)
        home, logs, base = live.house(), live.logs(), live.base()
        before = (home.n, home.roads, home.parts), logs_of(LINE, (0, 1)), (0, 0)
        live.grow(0, 2, 2)
        live.forget((1, 0, 0))
        live.strike((2, 1))
        self.assertEqual(((home.n, home.roads, home.parts), logs, base), before)
        self.assertEqual((LINE.n, LINE.roads, LINE.parts), (3, ((0, 1), (1, 2)), ((0,), (1,))))

    def test_deeds_return_nothing_and_take_names(self):
        live = Live(house=LINE)
        self.assertIsNone(live.meet(road=0))
        self.assertIsNone(live.grow(a=0, b=2, part=2))
        self.assertIsNone(live.meet(road=2))
        self.assertIsNone(live.forget(cut=(1, 0, 0)))
        self.assertEqual(live.whole(name=(2, 1)), (2, 1))
        self.assertIsNone(live.lose(lost=(0,)))
        self.assertIsNone(live.strike(name=(2, 1)))
        self.assertIsNone(live.undo())
        self.assertIsNone(live.redo())


class Deeds(unittest.TestCase):
    def test_meet(self):
        live = led(LINE, 0, 1, 0)
        self.assertEqual(live.logs(), logs_of(LINE, (0, 1, 0)))
        self.assertEqual(live.last(), (0, 2))
        # A clock is the mark of the last row, also behind a strike.
        live.strike((1, 1))
        live.meet(1)
        self.assertEqual(live.logs(), logs_of(LINE, (0, 1)))

    def test_a_name_borne_anew(self):
        live = led(LINE, 0, 1, 0)
        live.strike((0, 2))
        self.assertEqual(live.last(), (1, 1))
        refuses(self, BadMeeting, (0, 2), live.whole, (0, 2))
        live.meet(0)
        self.assertEqual((live.last(), live.whole((0, 2))), ((0, 2), (0, 2)))
        self.assertEqual(live.logs(), logs_of(LINE, (0, 1, 0)))

    def test_last_is_the_last_one_of_the_history_of_the_logs(self):
        # By the sums of the marks, not by when they met; for like sums by roads.
        live = led(PIECES, 0, 0, 1)
        self.assertEqual(live.last(), (0, 2))
        live.meet(1)
        self.assertEqual(live.last(), (1, 2))
        live.strike((1, 2))
        self.assertEqual(live.last(), (0, 2))

    def test_forget_adds_to_the_base(self):
        live = led(LINE, 0, 1, 0, 0, 1)
        live.forget((1, 0))
        self.assertEqual((live.base(), live.last()), ((1, 0), (1, 2)))
        self.assertEqual(live.whole((0, 1)), (0, 2))
        live.forget((1, 1))
        self.assertEqual(live.base(), (2, 1))
        self.assertEqual([live.whole(name) for name in ((0, 1), (1, 1))], [(0, 3), (1, 2)])
        refuses(self, BadMeeting, (0, 2), live.whole, (0, 2))
        live.forget((1, 1))
        self.assertEqual((live.base(), live.logs(), live.last()), ((3, 2), ((), (), ()), None))
        live.meet(1)
        self.assertEqual((live.last(), live.whole((1, 1))), ((1, 1), (1, 3)))
        # A strike leaves the base as it is.
        live.strike((1, 1))
        self.assertEqual((live.base(), live.last()), ((3, 2), None))
        for _ in range(5):
            live.undo()
        self.assertEqual((live.base(), live.logs()), ((0, 0), logs_of(LINE, (0, 1, 0, 0, 1))))

    def test_grow_moves_marks_and_base(self):
        home = house(3, ((0, 2), (1, 2)), ((0,), (1,)))
        live = led(home, 0, 0, 1)
        live.forget((1, 0))
        live.grow(0, 1, 1)
        self.assertEqual(live.house(), house(3, ((0, 1), (0, 2), (1, 2)), ((0, 2), (1,))))
        self.assertEqual((live.base(), live.last()), ((0, 1), (0, 1)))
        self.assertEqual(live.logs(), logs_of(live.house(), (1, 2)))
        self.assertEqual([live.whole(name) for name in ((1, 1), (0, 1))], [(1, 2), (0, 1)])
        live.meet(0)
        self.assertEqual(live.logs(), logs_of(live.house(), (1, 2, 0)))
        live.grow(2, 3, 2)
        self.assertEqual((live.house().n, live.base(), live.logs()[3]), (4, (0, 1, 0), ()))
        live.undo()
        live.undo()
        live.undo()
        self.assertEqual((live.house(), live.base(), live.last()), (home, (1, 0), (1, 1)))

    def test_lose(self):
        live = led(LINE, 0, 1, 0)
        live.forget((0, 0))
        live.lose((0, 1))
        self.assertEqual(live.logs(), logs_of(LINE, (0, 1)))
        self.assertEqual((live.last(), live.base()), ((1, 1), (0, 0)))
        live.lose(())
        self.assertEqual(live.logs(), logs_of(LINE, (0, 1)))
        live.lose((0,))
        self.assertEqual(live.logs(), logs_of(LINE, (0, 1)))
        live.undo()
        live.undo()
        live.undo()
        self.assertEqual(live.logs(), logs_of(LINE, (0, 1, 0)))
        live.lose((1, 2))
        self.assertEqual(live.logs(), logs_of(LINE, (0, 1, 0)))

    def test_nothing_to_redo_behind_a_new_deed(self):
        deeds = (("meet", 1), ("strike", (0, 1)), ("forget", (0, 0)), ("grow", 0, 2, 2), ("lose", (0,)))
        for deed in deeds:
            live = led(LINE, 0, 0)
            live.undo()
            getattr(live, deed[0])(*deed[1:])
            refuses(self, NothingToRedo, 0, live.redo)
            live.undo()
            self.assertEqual(live.logs(), logs_of(LINE, (0,)))
            live.redo()
            refuses(self, NothingToRedo, 0, live.redo)

    def test_redo_again_and_again(self):
        live = led(LINE, 0, 1, 0, 1)
        for _ in range(3):
            for _ in range(4):
                live.undo()
            refuses(self, NothingToUndo, 0, live.undo)
            for many in range(1, 5):
                live.redo()
                self.assertEqual(live.logs(), logs_of(LINE, (0, 1, 0, 1)[:many]))
            refuses(self, NothingToRedo, 0, live.redo)


class Refusals(unittest.TestCase):
    def unchanged(self, live, kind, what, call, *args):
        """The deed is refused; all stands as before, and what was undone can be redone."""
        before = state(live)
        refuses(self, kind, what, getattr(live, call), *args)
        self.assertEqual(state(live), before)

    def wrong_deeds(self, live):
        """Wrong deeds for a live house of LINE with the history 0, 1, 0."""
        for road in (-1, 2, -2, 10 ** 30):
            self.unchanged(live, BadRoad, road, "meet", road)
        for name in ODD + (0, (0, 0), (0, 3), (1, 2), (2, 1), (-1, 1), (0, 1, 1), (False, 1), (0, True), ("0", 1)):
            self.unchanged(live, BadMeeting, name, "strike", name)
            self.unchanged(live, BadMeeting, name, "whole", name)
        for cut, what in (((), 0), ((0,), 1), ((0, 0, 0), 3), ((3, 0), 0), ((-1, 5), 0), ((0, 2), 1), ((2, -1), 1),
                          ((2, 0), 0), ((0, 1), 1)):
            self.unchanged(live, BadCut, what, "forget", cut)
        self.unchanged(live, BadHand, 3, "grow", 3, 9, 9)
        self.unchanged(live, BadHand, 4, "grow", 0, 4, 9)
        self.unchanged(live, BadHand, 1, "grow", 1, 1, 9)
        self.unchanged(live, BadRoad, 1, "grow", 1, 2, 9)
        self.unchanged(live, BadPart, 3, "grow", 0, 2, 3)
        self.unchanged(live, BadPart, 1, "grow", 0, 3, 1)
        for lost, what in (((3,), 0), ((-1,), 0), ((0, 0), 1), ((1, 0), 1), ((0, 1, 2, 3), 3)):
            self.unchanged(live, BadHand, what, "lose", lost)
        self.unchanged(live, MetHand, 1, "lose", (0, 1, 2))

    def test_a_refused_deed_changes_nothing(self):
        live = led(LINE, 0, 1, 0)
        self.wrong_deeds(live)
        self.unchanged(live, NothingToRedo, 0, "redo")
        live.undo()
        self.assertEqual(live.logs(), logs_of(LINE, (0, 1)))
        live = led(LINE, 0, 1, 0, 1, 0)
        live.undo()
        live.undo()
        self.wrong_deeds(live)
        live.redo()
        live.redo()
        self.assertEqual(live.logs(), logs_of(LINE, (0, 1, 0, 1, 0)))
        self.unchanged(live, NothingToRedo, 0, "redo")

    def test_cuts_and_names_as_the_logs_stand(self):
        live = led(LINE, 0, 1, 0)
        live.forget((1, 0))
        self.unchanged(live, BadCut, 0, "forget", (2, 1))
        self.unchanged(live, BadMeeting, (0, 2), "strike", (0, 2))
        self.unchanged(live, BadCut, 0, "forget", (1, 0))
        live.forget((1, 1))
        self.unchanged(live, BadCut, 0, "forget", (1, 0))

    def test_the_eleventh_hand(self):
        live = Live(ONE_HAND)
        for hand in range(1, 10):
            live.grow(0, hand, 0)
        self.unchanged(live, BadSize, 11, "grow", 0, 10, 0)
        self.unchanged(live, BadHand, 11, "grow", 0, 11, 0)
        self.unchanged(live, BadRoad, 8, "grow", 0, 9, 0)

    def test_met_hands_and_names_behind_grow(self):
        live = led(LINE, 0, 1)
        live.grow(0, 2, 2)
        self.unchanged(live, MetHand, 0, "lose", (0, 1, 2))
        # The part of the road 1 - 2 has another index now.
        self.unchanged(live, BadMeeting, (1, 1), "whole", (1, 1))
        self.unchanged(live, BadMeeting, (1, 1), "strike", (1, 1))
        self.assertEqual((live.last(), live.whole((2, 1))), ((2, 1), (2, 1)))
        self.unchanged(live, BadCut, 2, "forget", (0, 0, 1))
        live.strike((0, 1))
        self.assertIsNone(live.last())


class Limits(unittest.TestCase):
    def test_200_deeds_that_stand(self):
        live = led(ROAD, *(0,) * 200)
        self.assertEqual(live.logs(), logs_of(ROAD, (0,) * 200))
        before = state(live)
        for call, args in (("meet", (0,)), ("strike", ((0, 200),)), ("forget", ((1,),)), ("grow", (0, 2, 0)),
                           ("lose", ((0,),))):
            refuses(self, TooMany, 201, getattr(live, call), *args)
            self.assertEqual(state(live), before)
        refuses(self, NothingToRedo, 0, live.redo)
        live.undo()
        refuses(self, NothingToRedo, 0, lambda: (live.redo(), live.redo()))
        self.assertEqual(state(live), before)

    def test_a_deed_more_behind_an_undo(self):
        live = led(ROAD, *(0,) * 200)
        live.undo()
        live.forget((9,))
        self.assertEqual((live.base(), live.last()), ((9,), (0, 190)))
        refuses(self, TooMany, 201, live.meet, 0)
        refuses(self, NothingToRedo, 0, live.redo)
        for _ in range(200):
            live.undo()
        refuses(self, NothingToUndo, 0, live.undo)
        for _ in range(200):
            live.redo()
        refuses(self, TooMany, 201, live.meet, 0)
        self.assertEqual((live.base(), live.last()), ((9,), (0, 190)))

    def test_other_errors_come_ahead_of_too_many_deeds(self):
        live = Live(LINE)
        for _ in range(66):
            live.meet(0)
            live.meet(1)
            live.forget((1, 1))
        live.meet(0)
        live.meet(1)
        self.assertEqual(live.base(), (66, 66))
        refuses(self, TooMany, 201, live.meet, 0)
        refuses(self, BadRoad, 2, live.meet, 2)
        refuses(self, BadMeeting, (0, 2), live.strike, (0, 2))
        refuses(self, BadCut, 1, live.forget, (0, 1))
        refuses(self, BadHand, 5, live.grow, 0, 5, 0)
        refuses(self, BadRoad, 0, live.grow, 0, 1, 0)
        refuses(self, BadPart, 4, live.grow, 0, 2, 4)
        refuses(self, BadHand, 0, live.lose, (7,))
        refuses(self, MetHand, 1, live.lose, (0, 1, 2))
        self.assertEqual(live.whole((1, 1)), (1, 67))
        for call, args in (("strike", ((0, 1),)), ("forget", ((0, 0),)), ("grow", (0, 2, 2)), ("lose", ((),))):
            refuses(self, TooMany, 201, getattr(live, call), *args)
        self.assertEqual(live.logs(), logs_of(LINE, (0, 1)))


class Interface(unittest.TestCase):
    def test_all_methods_stand_in_the_class(self):
        for name in ("meet", "strike", "forget", "grow", "lose", "undo", "redo", "house", "logs", "base", "last",
                     "whole"):
            self.assertIn(name, vars(Live))

    def test_cuts_of_a_live_house(self):
        # Each cut can be forgotten, and what is left is right.
        history = (0, 2, 1, 0, 2)
        for home in (TIED, TRIANGLE):
            for cut in cuts_by_words(home, history):
                live = led(home, *history)
                live.forget(cut)
                self.assertEqual(live.base(), cut)
                self.assertIs(logs_right(home, live.logs()), True)


if __name__ == "__main__":
    unittest.main()
