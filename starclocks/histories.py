"""Histories: meetings in the order in which they took place, each by the index of its road."""

from starclocks.errors import BadMeeting, TooMany
from starclocks.forms import is_index

MOST_MEETINGS = 200


def bad_meeting(house, history):
    """The first index whose entry is not the index of a road, or None."""
    for i, road in enumerate(history):
        if not is_index(road, len(house.roads)):
            return i
    return None


def is_history(house, history):
    """Whether the value, which may be any, is a history of the house."""
    return (isinstance(history, tuple) and len(history) <= MOST_MEETINGS
            and bad_meeting(house, history) is None)


def check_history(house, history):
    """Raises TooMany or BadMeeting unless the tuple is a history of the house."""
    if len(history) > MOST_MEETINGS:
        raise TooMany(len(history))
    at = bad_meeting(house, history)
    if at is not None:
        raise BadMeeting(at)
