"""Telling the events of a net their times one by one."""

from allbide.errors import BadValue, NotPossible
from allbide.fitting import FITS, told_witness
from allbide.heights import are_right_heights, clamped, have_times, room_beside
from allbide.nets import GREATEST_TIME, check_event, check_net, is_event, is_integer, length_between
from allbide.news import is_news_time
from allbide.paths import lengths_of, possible_walks

EARLY = "early"
LATE = "late"


def ends_of(word, event, other):
    """Return the start and the end of a walk that shows that the event's time is too early, or too late."""
    return (event, other) if word == EARLY else (other, event)


def is_beyond(word, time, told, length):
    """Tell whether the time is too early, or too late, beside the told one, by a walk of this length."""
    if word == EARLY:
        return time < told - length
    return time > told + length


class Telling:
    """A telling of a net that can be kept."""

    def __init__(self, net):
        check_net(net)
        self._walks = possible_walks(net)
        self._bounds = lengths_of(self._walks)
        self._net = net
        self._pieces = []

    def _window(self, event):
        """Return the window of the event."""
        return room_beside(self._bounds, event, self._pieces)

    def _check_asked(self, event, time):
        """Raise BadValue if it cannot be asked whether the event can have the time."""
        check_event(self._net, "event", event)
        if not is_integer(time, -GREATEST_TIME, GREATEST_TIME):
            raise BadValue("time")

    def tell(self, event, time):
        """Tell the event the time, and return the windows of all events."""
        check_event(self._net, "event", event)
        if not is_news_time(time):
            raise BadValue("time")
        if event in [other for other, _ in self._pieces]:
            raise NotPossible("told")
        low, high = self._window(event)
        if clamped(time, low, high) != time:
            raise NotPossible("window")
        self._pieces.append((event, time))
        return self.windows()

    def take_back(self):
        """Take back the piece of news that was told last, and return it, or None if there is none."""
        if not self._pieces:
            return None
        return self._pieces.pop()

    def windows(self):
        """Return the tuple of the windows of all events."""
        return tuple([self._window(event) for event in range(self._net[0])])

    def told(self):
        """Return the tuple of the pieces of news, in the sequence in which they were told."""
        return tuple(self._pieces)

    def heights(self):
        """Return right heights that have all told times."""
        return told_witness(self._bounds, self._pieces)

    def evidence(self, event, time):
        """Return evidence that the event can, or cannot, have the time."""
        self._check_asked(event, time)
        for other, told in self._pieces:
            for word in (EARLY, LATE):
                start, end = ends_of(word, event, other)
                found = self._walks[start][end]
                if found is not None and is_beyond(word, time, told, found[0]):
                    return word, other, found[1]
        return FITS, told_witness(self._bounds, self._pieces + [(event, time)])

    def _shows_fit(self, event, time, heights):
        """Tell whether the heights show that the event can have the time."""
        return are_right_heights(self._net, heights) and have_times(heights, self._pieces + [(event, time)])

    def _shows_beyond(self, word, event, time, other, walk):
        """Tell whether the walk shows that the event cannot have the time beside that of the other one."""
        times = {piece[0]: piece[1] for piece in self._pieces}
        if not is_event(other, self._net[0]) or other not in times:
            return False
        start, end = ends_of(word, event, other)
        length = length_between(self._net, start, end, walk)
        return length is not None and is_beyond(word, time, times[other], length)

    def accepts(self, event, time, value):
        """Tell whether the value is evidence that the event can, or cannot, have the time."""
        self._check_asked(event, time)
        if not isinstance(value, tuple) or len(value) not in (2, 3) or not isinstance(value[0], str):
            return False
        if len(value) == 2:
            return value[0] == FITS and self._shows_fit(event, time, value[1])
        word, other, walk = value
        return word in (EARLY, LATE) and self._shows_beyond(word, event, time, other, walk)
