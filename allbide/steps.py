"""Steps: the raises and lowers of which rows of news consist."""

from allbide.errors import BadValue
from allbide.heights import check_kept_times, clamped, marks
from allbide.nets import MOST_EVENTS, is_event
from allbide.news import check_row, is_news_time
from allbide.paths import checked_walks, lengths_of

RAISE = "raise"
LOWER = "lower"
# As many as a row of news has: two for each piece.
MOST_STEPS = 16


def is_step(value, size):
    """Tell whether the value is a step of the events from 0 to the size less 1."""
    if not isinstance(value, tuple) or len(value) != 3:
        return False
    word, event, time = value
    if not isinstance(word, str) or word not in (RAISE, LOWER):
        return False
    return is_event(event, size) and is_news_time(time)


def check_step(name, value):
    """Raise BadValue with the name of the argument if it is not a step."""
    if not is_step(value, MOST_EVENTS):
        raise BadValue(name)


def check_steps(steps, size):
    """Raise BadValue("steps") if they are not a tuple of steps of these events, or too many."""
    if not isinstance(steps, tuple) or len(steps) > MOST_STEPS:
        raise BadValue("steps")
    if not all([is_step(step, size) for step in steps]):
        raise BadValue("steps")


def steps_of(row):
    """Return the tuple of the steps of the row."""
    check_row("row", row, MOST_EVENTS)
    found = []
    for event, time in row:
        found.append((RAISE, event, time))
        found.append((LOWER, event, time))
    return tuple(found)


def do_commute(one, other):
    """Tell whether the two steps commute; they are not checked."""
    if one[0] == other[0]:
        return True
    raising, lowering = (one, other) if one[0] == RAISE else (other, one)
    return raising[1] == lowering[1] and raising[2] <= lowering[2]


def commute(one, other):
    """Tell whether the two steps commute."""
    check_step("one", one)
    check_step("other", other)
    return do_commute(one, other)


def stepped_height(bounds, event, height, step):
    """Return the height to which the step moves the event."""
    word, other, time = step
    low, high = marks(time, bounds[event][other], bounds[other][event])
    if word == RAISE:
        return clamped(height, low, None)
    return clamped(height, None, high)


def stepped(net, times, steps):
    """Return the heights to which the steps lead, one after another."""
    bounds = lengths_of(checked_walks(net))
    check_kept_times(net, times)
    check_steps(steps, net[0])
    heights = times
    for step in steps:
        heights = tuple([stepped_height(bounds, event, height, step) for event, height in enumerate(heights)])
    return heights


def levels_of(steps):
    """Return the list of the levels of the steps."""
    levels = []
    for index, step in enumerate(steps):
        below = [levels[k] for k in range(index) if not do_commute(step, steps[k])]
        levels.append(max(below, default=-1) + 1)
    return levels


def layer_order(step):
    """Return what the steps of a layer are sorted by: raises first, then the event, then the time."""
    word, event, time = step
    return (0 if word == RAISE else 1), event, time


def layers(steps):
    """Return the tuple of the layers of the steps."""
    check_steps(steps, MOST_EVENTS)
    levels = levels_of(steps)
    found = []
    for level in range(max(levels, default=-1) + 1):
        layer = [step for step, own in zip(steps, levels) if own == level]
        found.append(tuple(sorted(layer, key=layer_order)))
    return tuple(found)
