"""What several tests share: all small webs, values of any form, a check of errors, houses and histories."""

from itertools import combinations, product
from random import Random

from starclocks import errors
from starclocks.logs import logs_of
from starclocks.parts import house

# Values built from tuples, texts and numbers that are no pair of hands, no part, no index and no mark.
DEEP = ()
for _ in range(99):
    DEEP = (DEEP,)
ODD = ("", "0", "ab", (), ((),), "01", -1, 10 ** 30, (0,), (0, 1, 2), ((0, 1),), ("0", "1"), ("a", 1), (0, "a"),
       (0, (1,)), ((0,), 1), DEEP)

ERRORS = ("BadSize", "BadRoad", "BadPart", "NotTwoSided", "BadMeeting", "BadMark", "BadLogs", "BadCut", "BadHand",
          "BadSaved", "TooMany", "BadCount", "MetHand", "Parted", "BadText", "NothingToUndo", "NothingToRedo")


def webs(n):
    """All tuples of roads among n hands."""
    pairs = list(combinations(range(n), 2))
    for many in range(len(pairs) + 1):
        for roads in combinations(pairs, many):
            yield roads


def refuses(test, kind, what, call, *args, **more):
    """The call raises an error of just this class, with this `what`."""
    try:
        got = call(*args, **more)
    except errors.Refused as e:
        test.assertEqual((type(e).__name__, e.what), (kind.__name__, what))
        test.assertIs(type(e), kind)
        test.assertIs(type(e.what), type(what))
    else:
        test.fail(f"{kind.__name__}({what!r}) was not raised, but {got!r} returned")


def plain(test, value):
    """The value is a number, None or a tuple of such: no list, no bool."""
    if value is None or type(value) is int:
        return
    test.assertIs(type(value), tuple)
    for entry in value:
        plain(test, entry)


LINE = house(3, ((0, 1), (1, 2)), ((0,), (1,)))
ONE_STAR = house(3, ((0, 1), (1, 2)), ((0, 1),))
TRIANGLE = house(3, ((0, 1), (0, 2), (1, 2)), ((0, 1, 2),))
PIECES = house(4, ((0, 1), (2, 3)), ((0,), (1,)))
ROAD = house(2, ((0, 1),), ((0,),))
BARE = house(3, (), ())
# Hands 0 to 2 are a triangle, hand 3 has a star of three; hand 7 has no road.
MIXED = house(8, ((0, 1), (0, 2), (1, 2), (2, 3), (3, 4), (3, 5), (5, 6)), ((0, 1, 2), (3, 4, 5), (6,)))
RING = house(5, ((0, 1), (0, 4), (1, 2), (2, 3), (3, 4)), ((0, 2), (1,), (3, 4)))
TWO_PIECES = house(9, ((0, 1), (0, 2), (1, 2), (3, 4), (5, 6), (5, 7), (6, 8)), ((0, 1, 2), (3,), (4, 5), (6,)))
# Two roads and a third one between: a meeting there can be behind all that was on both.
TIED = house(4, ((0, 1), (1, 2), (2, 3)), ((0,), (1,), (2,)))
HOUSES = (LINE, ONE_STAR, TRIANGLE, PIECES, ROAD, MIXED, RING, TWO_PIECES)


def full_house():
    """Ten hands with all roads, each a part by itself."""
    roads = tuple(combinations(range(10), 2))
    return house(10, roads, tuple((i,) for i in range(len(roads))))


def some_histories(home, many=6, longest=30):
    """Histories of several lengths, always the same ones; the empty one is the first."""
    chance = Random(f"{home.n} {home.roads} {home.parts}")
    yield ()
    for _ in range(many):
        yield tuple(chance.randrange(len(home.roads)) for _ in range(chance.randint(1, longest)))


def pasts(home, history):
    """For each meeting the set of those ahead of it, from what [4] says alone."""
    found = []
    for i, road in enumerate(history):
        before = set()
        for j in range(i):
            if set(home.roads[road]) & set(home.roads[history[j]]):
                before |= {j} | found[j]
        found.append(before)
    return found


def part_at(home, road):
    """The index of the part with the road."""
    return next(q for q, part in enumerate(home.parts) if road in part)


def spoilt(chance, home, logs):
    """The logs with one to three small changes."""
    rows = [list(log) for log in logs]
    for _ in range(chance.randint(1, 3)):
        log = rows[chance.choice([h for h in range(home.n) if rows[h]] or [0])]
        if not log:
            continue
        at = chance.randrange(len(log))
        how = chance.randrange(6)
        mate, mark = log[at] if how < 4 else (0, ())
        if how == 0:
            del log[at]
        elif how == 1:
            log.insert(chance.randint(0, len(log)), log[at])
        elif how == 2 and mark:
            entry = chance.randrange(len(mark))
            mark = mark[:entry] + (max(0, mark[entry] + chance.choice((-1, 1))),) + mark[entry + 1:]
            log[at] = (mate, mark)
        elif how == 3:
            log[at] = (chance.randrange(home.n), mark)
        elif how == 4:
            other = chance.randrange(len(log))
            log[at], log[other] = log[other], log[at]
        elif chance.random() < 0.3:
            log[at] = chance.choice(ODD)
            break
    return tuple(tuple(log) for log in rows)


def with_row(logs, hand, index, *rows):
    """The logs with other rows in the place of one."""
    log = logs[hand][:index] + rows + logs[hand][index + 1:]
    return logs[:hand] + (log,) + logs[hand + 1:]


def two_roads(one, two):
    """Right logs of PIECES with so many meetings on its first road and on its second one; they may be over 200."""
    ones = tuple((k, 0) for k in range(1, one + 1))
    twos = tuple((0, k) for k in range(1, two + 1))
    return (tuple((1, mark) for mark in ones), tuple((0, mark) for mark in ones),
            tuple((3, mark) for mark in twos), tuple((2, mark) for mark in twos))


def asks_right_logs(test, call, *others):
    """The call refuses logs that are not right, whatever its other arguments are."""
    logs = logs_of(LINE, (0, 1, 0))
    spoilt_logs = with_row(logs, 2, 0, (1, (1, 2)))
    refuses(test, errors.BadLogs, (1, 1, 1), call, LINE, spoilt_logs, *others)
    for row in ODD + (0, (1,), (1, (1, 201)), (0, (1, 1))):
        refuses(test, errors.BadLogs, (2, 0, 0), call, LINE, with_row(spoilt_logs, 2, 0, row), *others)
    refuses(test, errors.BadLogs, (0, 0, 2), call, LINE, (logs[0][:1] + logs[0], logs[1], logs[2]), *others)
    refuses(test, errors.BadLogs, (0, 0, 3), call, ROAD, (((1, (2,)),), ((0, (2,)),)), *others)
    refuses(test, errors.TooMany, 201, call, PIECES, two_roads(101, 100), *others)
    refuses(test, errors.TooMany, 400, call, PIECES, two_roads(200, 200), *others)
    # A fault comes ahead of too many meetings.
    refuses(test, errors.BadLogs, (3, 199, 1), call, PIECES,
            with_row(two_roads(200, 200), 2, 199), *others)


def within(one, two):
    """Whether no entry of one is above that of two."""
    return all(a <= b for a, b in zip(one, two))


def asks_cuts(test, call):
    """The call refuses, behind the logs, each of two vectors that is no cut, and a low one above the high one."""
    logs = logs_of(LINE, (0, 1, 0))
    for bad, what in (((), 0), ((0,), 1), ((0, 0, 0), 3), ((3, 0), 0), ((-1, 5), 0), ((0, 2), 1), ((2, -1), 1),
                      ((2, 0), 0), ((0, 1), 1)):
        refuses(test, errors.BadCut, what, call, LINE, logs, bad, (2, 1))
        refuses(test, errors.BadCut, what, call, LINE, logs, (0, 0), bad)
        refuses(test, errors.BadCut, what, call, LINE, logs, (2, 1), bad)
        refuses(test, errors.BadCut, what, call, LINE, logs, bad, (7, 7, 7, 7, 7))
    refuses(test, errors.BadCut, 2, call, LINE, logs, (1, 1), (1, 0))
    refuses(test, errors.BadCut, 2, call, LINE, logs, (2, 1), (0, 0))
    refuses(test, errors.BadCut, 2, call, PIECES, two_roads(2, 1), (2, 0), (0, 1))
    refuses(test, errors.BadCut, 2, call, PIECES, two_roads(2, 1), (0, 1), (2, 0))
    asks_right_logs(test, call, (9,), (9,))
    asks_right_logs(test, call, (0, 0), (0, 0))


def names_by_words(home, history):
    """The names of the meetings of a history, counted part by part."""
    many = [0] * len(home.parts)
    found = []
    for road in history:
        part = part_at(home, road)
        many[part] += 1
        found.append((part, many[part]))
    return found


def marks_by_words(home, history):
    """The marks, by counting the meetings of each part that are ahead, each one itself counted."""
    found = []
    for k, before in enumerate(pasts(home, history)):
        parts = [part_at(home, history[j]) for j in before | {k}]
        found.append(tuple(parts.count(q) for q in range(len(home.parts))))
    return found


def totals_by_words(home, history):
    """How many meetings of a history each part has."""
    parts = [part_at(home, road) for road in history]
    return tuple(parts.count(q) for q in range(len(home.parts)))


def cuts_by_words(home, history):
    """All vectors such that the meetings in them have with each meeting all those ahead of it."""
    ahead = pasts(home, history)
    called = names_by_words(home, history)
    found = []
    for cut in product(*[range(total + 1) for total in totals_by_words(home, history)]):
        inside = {k for k, (q, i) in enumerate(called) if i <= cut[q]}
        if all(ahead[k] <= inside for k in inside):
            found.append(cut)
    return found


def orders_by_words(home, history, inside=None):
    """All orders, ascending, of the meetings with these indexes (of all): each behind those that are ahead of it."""
    ahead = pasts(home, history)
    found = []

    def go_on(done, left):
        if not left:
            found.append(tuple(history[k] for k in done))
        for k in sorted(left):
            if not ahead[k] & left:
                go_on(done + [k], left - {k})

    go_on([], set(range(len(history))) if inside is None else set(inside))
    return sorted(found)


def small_histories(longest=7, many=12):
    """Pairs of a house and a history that is short enough to try all sets and orders of its meetings."""
    for home in HOUSES + (TIED, house(6, ((0, 1), (2, 3), (4, 5)), ((0,), (1,), (2,)))):
        for history in some_histories(home, many=many, longest=longest):
            yield home, history


# Pairs of lost hands that are refused with the index at which they are.
NO_LOST = (((3,), 0), ((-1,), 0), ((0, 0), 1), ((1, 0), 1), ((0, 3), 1), ((0, 2, 1, 0), 2), ((0, 1, 2, 2), 3),
           ((10 ** 30,), 0), ((0, 1, 2, 3), 3), ((1, -1), 1))


def asks_kept(test, call, *others):
    """The call refuses lost hands, and then kept logs, whatever its other arguments are."""
    kept = logs_of(LINE, (0, 1, 0))
    row = (1, (1, 1))
    for lost, what in NO_LOST:
        refuses(test, errors.BadHand, what, call, LINE, kept, lost, *others)
        refuses(test, errors.BadHand, what, call, LINE, (("x",), (), ()), lost, *others)
    for odd in ODD + (0, (1,), (1, (1, 201)), (0, (1, 1)), (2, (1, 1)), (1, (1,)), (True, (1, 1)), (1, (1, True))):
        refuses(test, errors.BadLogs, (2, 0, 0), call, LINE, ((), (), (odd,)), (0, 1), *others)
        refuses(test, errors.BadLogs, (2, 1, 0), call, LINE, ((), (), (row, odd)), (0, 1), *others)
        # The log of a lost hand is to be empty, whatever stands there at which index.
        refuses(test, errors.BadLogs, (1, 0, 0), call, LINE, ((), (odd,), (row,)), (0, 1), *others)
        refuses(test, errors.BadLogs, (1, 0, 0), call, LINE, ((), kept[1] + (odd,), (odd,)), (0, 1), *others)
        refuses(test, errors.BadLogs, (0, 0, 0), call, LINE, ((odd,), kept[1], ()), (1, 2), *others)
    # Bad forms come ahead of all other faults.
    refuses(test, errors.BadLogs, (2, 0, 0), call, LINE, ((row,), (), (row,)), (2,), *others)
    refuses(test, errors.BadLogs, (0, 0, 1), call, LINE, ((row,), (), ()), (2,), *others)
    refuses(test, errors.BadLogs, (0, 1, 1), call, LINE, (kept[0], kept[1][:2], ()), (2,), *others)
    refuses(test, errors.BadLogs, (1, 2, 1), call, LINE, (kept[0][:1], kept[1], ()), (2,), *others)
    refuses(test, errors.BadLogs, (0, 0, 1), call, LINE, (kept[0][:1], kept[1][:1] * 2, ()), (2,), *others)
    refuses(test, errors.BadLogs, (0, 0, 2), call, LINE, (kept[0][:1] * 2, kept[1][:1], ()), (2,), *others)
    # With a lost mate it is only asked whether each mark is ahead of the next one.
    refuses(test, errors.BadLogs, (2, 1, 3), call, LINE, ((), (), (row, row)), (0, 1), *others)
    refuses(test, errors.BadLogs, (2, 1, 3), call, LINE, ((), (), ((1, (1, 2)), row)), (0, 1), *others)
    refuses(test, errors.BadLogs, (2, 1, 3), call, LINE, ((), (), ((1, (1, 1)), (1, (0, 2)))), (0, 1), *others)
    refuses(test, errors.BadLogs, (0, 1, 3), call, LINE, (kept[0][::-1], kept[1][:1] + kept[1][2:], ()), (2,), *others)
    # The least number of one row, and the first row ahead of the least number.
    refuses(test, errors.BadLogs, (0, 1, 1), call, LINE, (kept[0][::-1], kept[1][2:], ()), (2,), *others)
    refuses(test, errors.BadLogs, (0, 1, 3), call, TIED,
            (((1, (1, 0, 0)), (1, (1, 0, 0))), (), ((3, (0, 0, 1)),), ()), (1,), *others)


def lost_tuples(home):
    """Several tuples of lost hands: none, each one alone, all, and some others; always the same ones."""
    chance = Random(f"{home.n} {home.roads}")
    found = {(), tuple(range(home.n))} | {(hand,) for hand in range(home.n)} | set(home.roads)
    for _ in range(12):
        found.add(tuple(sorted(chance.sample(range(home.n), chance.randint(1, home.n)))))
    return sorted(found)


def lost_cases(many=6, longest=12):
    """House, history, its logs, lost hands, and what is kept of the logs."""
    more = (TIED, house(6, ((0, 1), (1, 2), (2, 3), (3, 4), (4, 5)), ((0, 1), (2,), (3, 4))),
            house(4, tuple(combinations(range(4), 2)), ((0, 1, 2), (3, 4), (5,))))
    for home in HOUSES + more:
        for history in some_histories(home, many=many, longest=longest):
            logs = logs_of(home, history)
            for lost in lost_tuples(home):
                yield home, history, logs, lost, tuple(() if h in lost else log for h, log in enumerate(logs))


def hidden_by_words(home, history, lost):
    """The indexes of the meetings of two lost hands that are ahead of some other meeting that is not of such."""
    gone = {k for k, road in enumerate(history) if set(home.roads[road]) <= set(lost)}
    seen = set()
    for k, before in enumerate(pasts(home, history)):
        if k not in gone:
            seen |= before
    return sorted(gone & seen)


def inner_by_words(home, lost):
    """The inner roads, and of them the lone ones."""
    inner = [road for road, hands in enumerate(home.roads) if set(hands) <= set(lost)]
    lone = [road for road in inner
            if all(not set(home.roads[road]) & set(home.roads[other]) for other in inner if other != road)]
    return inner, lone


# Rows that are none of hand 2 of LINE by their form, each for another reason.
NO_ROWS = ODD + (0, (1,), (1, (1, 0), 0), (1, ()), (1, (1,)), (1, (1, 0, 0)), (1, "10"), (1, 1), ("1", (1, 0)),
                 ((1,), (1, 0)), (1, (1, "0")), (1, (1, (0,))), (1, (1, -1)), (1, (201, 0)), (1, (1, 10 ** 30)),
                 (0, (1, 1)), (2, (1, 1)), (3, (1, 1)), (-1, (1, 1)), (10 ** 30, (1, 1)), (True, (1, 1)),
                 (1, (1, True)))


def asks_forms_alone(test, call):
    """The call refuses the first row that is none by its form with why 0, and asks for nothing else."""
    logs = logs_of(LINE, (0, 1, 0))
    for odd in NO_ROWS:
        refuses(test, errors.BadLogs, (2, 0, 0), call, LINE, with_row(logs, 2, 0, odd))
        refuses(test, errors.BadLogs, (2, 1, 0), call, LINE, with_row(logs, 2, 0, logs[2][0], odd))
        refuses(test, errors.BadLogs, (2, 0, 0), call, LINE, ((), (), (odd, odd)))
    refuses(test, errors.BadLogs, (1, 2, 0), call, LINE, with_row(with_row(logs, 1, 2, "x"), 2, 0, "y"))
    refuses(test, errors.BadLogs, (1, 1, 0), call, LINE, with_row(with_row(logs, 1, 2, "x"), 1, 1, "y"))
    refuses(test, errors.BadLogs, (0, 0, 0), call, BARE, (((1, ()),), (), ()))
    # Faults of rows by form are none here, and neither are very many meetings.
    for fine in (with_row(logs, 2, 0, (1, (1, 2))), with_row(logs, 0, 0), (logs[0] * 2, (), logs[2]),
                 (((1, (200, 200)), (1, (0, 0))), (), ())):
        call(LINE, fine)
    call(PIECES, two_roads(200, 200))


def all_houses():
    """The houses of several forms, with one of one hand and one without roads."""
    return HOUSES + (TIED, BARE, house(1, (), ()), full_house())
