"""What several tests share: all small webs, values of any form, and a check of errors."""

from itertools import combinations

from starclocks import errors

# Values built from tuples, texts and numbers that are no pair of hands, no part, no index and no mark.
DEEP = ()
for _ in range(99):
    DEEP = (DEEP,)
ODD = ("", "0", "ab", (), ((),), "01", -1, 10 ** 30, (0,), (0, 1, 2), ((0, 1),), ("0", "1"), ("a", 1), (0, "a"),
       (0, (1,)), ((0,), 1), DEEP)

ERRORS = ("BadSize", "BadRoad", "BadPart", "NotTwoSided", "BadMeeting", "BadMark", "BadLogs", "BadCut", "BadHand",
          "BadSaved", "TooMany", "BadCount", "MetHand", "Parted", "BadText", "NothingToUndo", "NothingToRedo")


def webs(n):
    """All tuples of roads among n hands."""
    pairs = list(combinations(range(n), 2))
    for many in range(len(pairs) + 1):
        for roads in combinations(pairs, many):
            yield roads


def refuses(test, kind, what, call, *args, **more):
    """The call raises an error of just this class, with this `what`."""
    try:
        got = call(*args, **more)
    except errors.Refused as e:
        test.assertEqual((type(e).__name__, e.what), (kind.__name__, what))
        test.assertIs(type(e), kind)
        test.assertIs(type(e.what), type(what))
    else:
        test.fail(f"{kind.__name__}({what!r}) was not raised, but {got!r} returned")


def plain(test, value):
    """The value is a number, None or a tuple of such: no list, no bool."""
    if value is None or type(value) is int:
        return
    test.assertIs(type(value), tuple)
    for entry in value:
        plain(test, entry)
