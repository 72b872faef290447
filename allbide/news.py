"""Pieces of news, rows of them, and joint news."""

from allbide.errors import BadValue
from allbide.nets import is_event, is_integer

MOST_NEWS = 8
MOST_JOINT_NEWS = 6
GREATEST_NEWS_TIME = 500


def is_news_time(value):
    """Tell whether the value is a time that an event can be told."""
    return is_integer(value, -GREATEST_NEWS_TIME, GREATEST_NEWS_TIME)


def is_news(value, size):
    """Tell whether the value is a piece of news of the events from 0 to the size less 1."""
    if not isinstance(value, tuple) or len(value) != 2:
        return False
    event, time = value
    return is_event(event, size) and is_news_time(time)


def are_news(value, size, most):
    """Tell whether the value is a tuple of at most so many pieces of news of these events."""
    if not isinstance(value, tuple) or len(value) > most:
        return False
    return all([is_news(piece, size) for piece in value])


def is_row(value, size):
    """Tell whether the value is a row of news of these events."""
    return are_news(value, size, MOST_NEWS)


def are_joint_news(value, size):
    """Tell whether the value is joint news of these events: none of them is told two times."""
    if not are_news(value, size, MOST_JOINT_NEWS):
        return False
    return len(set([event for event, _ in value])) == len(value)


def check_row(name, value, size):
    """Raise BadValue with the name of the argument if it is not a row of news of these events."""
    if not is_row(value, size):
        raise BadValue(name)
