"""Places of a further event, at which rows of news that are not alike lead to different times."""

from allbide.alike import check_rows
from allbide.errors import BadValue
from allbide.nets import MOST_EVENTS, is_event, is_integer
from allbide.news import check_row

GREATEST_BOUND = 2000
GREATEST_START = 10000


def is_bound(value):
    """Tell whether the value can be the upper or the lower of a place."""
    if value is None:
        return True
    if not isinstance(value, tuple) or len(value) != 2:
        return False
    event, bound = value
    return is_event(event, MOST_EVENTS) and is_integer(bound, -GREATEST_BOUND, GREATEST_BOUND)


def is_open(upper, lower):
    """Tell whether times of the further event are left between both bounds, whatever the times of their events are."""
    if upper is None or lower is None or upper[0] != lower[0]:
        return True
    return upper[1] + lower[1] >= 0


def is_place(value):
    """Tell whether the value is a possible place."""
    if not isinstance(value, tuple) or len(value) != 3:
        return False
    upper, lower, start = value
    if not is_bound(upper) or not is_bound(lower):
        return False
    return is_integer(start, -GREATEST_START, GREATEST_START) and is_open(upper, lower)


def time_behind(row, place):
    """Return the time to which the row leads from the start of the place; neither is checked."""
    upper, lower, time = place
    for event, told in row:
        if upper is not None and upper[0] == event:
            time = max(time, told - upper[1])
        if lower is not None and lower[0] == event:
            time = min(time, told + lower[1])
    return time


def time_at(row, place):
    """Return the time to which the row leads from the start of the place."""
    check_row("row", row, MOST_EVENTS)
    if not is_place(place):
        raise BadValue("place")
    return time_behind(row, place)


def told_bounds(row, one, other):
    """Return the bounds that are tried between the two events, ascending, each once."""
    gaps = [time - less for event, time in row if event == one for further, less in row if further == other]
    return sorted(set([gap - step for gap in gaps for step in (0, 1)]))


def told_places(row):
    """Return the list of the told places for two rows, of which this row has the news, in their sequence."""
    events = sorted(set([event for event, _ in row]))
    places = [((event, 0), None, -GREATEST_START) for event in events]
    places.extend([(None, (event, 0), GREATEST_START) for event in events])
    for one in events:
        for other in events:
            for bound in told_bounds(row, one, other):
                for start in (-GREATEST_START, GREATEST_START):
                    places.append(((one, bound), (other, 0), start))
    return [place for place in places if is_place(place)]


def tells_apart(first, second, place):
    """Tell whether the rows lead to different times at the place."""
    return time_behind(first, place) != time_behind(second, place)


def separation(first, second):
    """Return the first told place at which the rows lead to different times, or None if they are alike."""
    check_rows(first, second)
    for place in told_places(first + second):
        if tells_apart(first, second, place):
            return place
    return None


def accepts_separation(first, second, value):
    """Tell whether the value is a possible place at which the rows lead to different times."""
    check_rows(first, second)
    return is_place(value) and tells_apart(first, second, value)
