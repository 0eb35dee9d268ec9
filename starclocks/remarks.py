"""Marks made anew from what mates each hand has met."""

from starclocks.errors import BadMeeting, TooMany
from starclocks.heads import standing
from starclocks.logs import is_mate, ties

# Each of 200 meetings has a mate in two tuples.
MOST_MATES = 400


def check_mates(house, mates):
    """Raises TooMany if there are too many mates, or BadMeeting at the first one that has no road to its hand."""
    many = sum([len(own) for own in mates])
    if many > MOST_MATES:
        raise TooMany(many)
    tied = ties(house)
    for hand, own in enumerate(mates):
        for index, mate in enumerate(own):
            if not is_mate(tied, hand, mate):
                raise BadMeeting((hand, index))


def remarked(house, mates):
    """A pair: the logs of the meetings that can be taken, with the marks that are made, and each hand's number."""
    check_mates(house, mates)
    taken = standing(house, [[(mate, None) for mate in own] for own in mates])
    return tuple([tuple(log) for log in taken]), tuple([len(log) for log in taken])
