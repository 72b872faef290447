"""Right heights, and what news ask of heights by the tight bounds of a net."""

from allbide.errors import BadValue
from allbide.nets import is_times, is_whole, rule_excesses


def are_right_heights(net, value):
    """Tell whether the value is right heights of the net."""
    if not isinstance(value, tuple) or len(value) != net[0]:
        return False
    if not all([is_whole(height) for height in value]):
        return False
    return all([missed == 0 for missed in rule_excesses(net, value)])


def check_kept_times(net, times):
    """Raise BadValue("times") if they are not times that keep the net."""
    if not is_times(times, net) or not are_right_heights(net, times):
        raise BadValue("times")


def heights_of(walks):
    """Return right heights, from the least walks of a net that can be kept."""
    heights = []
    for event in range(len(walks)):
        # Every event can be the start, so that there is a walk to each one.
        heights.append(min([row[event][0] for row in walks if row[event] is not None]))
    return tuple(heights)


def have_times(heights, row):
    """Tell whether the heights give each event of the row the time that it is told."""
    return all([heights[event] == time for event, time in row])


def marks(time, there, back):
    """Return the least and the greatest height of an event beside another one that has this time.

    The bounds lead from the event to the other one and back; None is no bound, and gives None.
    """
    low = None if there is None else time - there
    high = None if back is None else time + back
    return low, high


def clamped(height, low, high):
    """Return the height, raised to the low and then lowered to the high, where None has no effect."""
    if low is not None:
        height = max(height, low)
    if high is not None:
        height = min(height, high)
    return height


def room_beside(bounds, event, row):
    """Return the greatest low mark and the least high mark of the event over the row, None where there is none."""
    pairs = [marks(time, bounds[event][other], bounds[other][event]) for other, time in row]
    low = max([mark for mark, _ in pairs if mark is not None], default=None)
    high = min([mark for _, mark in pairs if mark is not None], default=None)
    return low, high


def moved(bounds, heights, row):
    """Return the heights behind news that fit with one another and are told together."""
    found = []
    for event, height in enumerate(heights):
        low, high = room_beside(bounds, event, row)
        found.append(clamped(height, low, high))
    return tuple(found)


def first_barrier(walks, row):
    """Return the first barrier (i, j, walk) of the row by the least walks, or None if the row fits."""
    for i, (start, earlier) in enumerate(row):
        for j, (end, later) in enumerate(row):
            found = walks[start][end]
            if found is not None and later - earlier > found[0]:
                return i, j, found[1]
    return None
