"""The forms of plain values, which may be anything built from tuples, texts and numbers, and of rows of texts."""

DIGITS = "0123456789"


def is_number(value):
    """Whether the value is an int that is neither True nor False."""
    return isinstance(value, int) and not isinstance(value, bool)


def is_index(value, many):
    """Whether the value is a number from 0 to many - 1."""
    return is_number(value) and 0 <= value < many


def is_pair(value):
    """Whether the value is a tuple of two."""
    return isinstance(value, tuple) and len(value) == 2


def is_number_pair(value):
    """Whether the value is a tuple of two numbers."""
    return is_pair(value) and is_number(value[0]) and is_number(value[1])


def bad_rise(entries, many):
    """The index of the first entry that is not from 0 to many - 1 or is not above the one before it, or None."""
    last = -1
    for i, entry in enumerate(entries):
        if not is_index(entry, many) or entry <= last:
            return i
        last = entry
    return None


def is_rising(value, many):
    """Whether the value is a strictly ascending tuple of numbers from 0 to many - 1."""
    return isinstance(value, tuple) and bad_rise(value, many) is None


def is_mark(value):
    """Whether the value is a tuple of numbers from 0 on."""
    return isinstance(value, tuple) and all([is_number(entry) and entry >= 0 for entry in value])


def number_of(word):
    """The number that a number word tells; None if it is no number word."""
    if not 1 <= len(word) <= 3 or any([sign not in DIGITS for sign in word]):
        return None
    if word[0] == "0" and len(word) > 1:
        return None
    return int(word)


def read_rows(text):
    """For each row a pair: its first word, and the tuple of the numbers of the others, None for other words."""
    found = []
    for row in text.split("\n"):
        first, *others = row.split(" ")
        found.append((first, tuple([number_of(word) for word in others])))
    return found


def written_row(first, numbers):
    """The row of a first word and of numbers."""
    return " ".join([first] + [str(number) for number in numbers])
