"""Hidden meetings: lost ones of which kept marks tell."""

from starclocks.errors import BadMeeting
from starclocks.forms import is_number_pair
from starclocks.logs import ties
from starclocks.lost import check_kept


def kept_marks(house, kept):
    """For each name of a kept row's meeting its mark."""
    tied = ties(house)
    found = {}
    for hand, log in enumerate(kept):
        for mate, mark in log:
            part = tied[(hand, mate)]
            found[(part, mark[part])] = mark
    return found


def greatest_entries(house, kept):
    """For each part the greatest entry for it in all kept rows; 0 without rows."""
    found = [0] * len(house.parts)
    for log in kept:
        for _, mark in log:
            found = [max(a, b) for a, b in zip(found, mark)]
    return found


def hidden_names(house, kept):
    """The names, ascending, up to the greatest entries that no kept row's meeting bears."""
    known = kept_marks(house, kept)
    tops = greatest_entries(house, kept)
    return [(q, i) for q, top in enumerate(tops) for i in range(1, top + 1) if (q, i) not in known]


def sure_hidden(house, kept, lost):
    """The names of the lost meetings that were ahead of some kept row's meeting, ascending."""
    check_kept(house, kept, lost)
    return tuple(hidden_names(house, kept))


def hidden_ahead(house, kept, lost, name, of):
    """Whether the hidden meeting with this name was ahead of the kept meeting with the name of."""
    check_kept(house, kept, lost)
    # Names are asked for their form first, for not every value may be a key, and True is no 1.
    if not is_number_pair(name) or name not in hidden_names(house, kept):
        raise BadMeeting(name)
    known = kept_marks(house, kept)
    if not is_number_pair(of) or of not in known:
        raise BadMeeting(of)
    return known[of][name[0]] >= name[1]
