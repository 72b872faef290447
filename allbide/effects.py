"""What rows of news do: states, limits, settled events, and the evidence for limits."""

from allbide.bounds import evidence_of, is_evidence
from allbide.heights import check_kept_times, clamped, marks, moved
from allbide.nets import check_event, check_net, is_whole
from allbide.news import check_row
from allbide.paths import lengths_of, possible_walks


def states(net, times, row):
    """Return the tuple of the heights behind each piece of news."""
    check_net(net)
    check_kept_times(net, times)
    check_row("row", row, net[0])
    bounds = lengths_of(possible_walks(net))
    found = []
    heights = times
    for news in row:
        heights = moved(bounds, heights, (news,))
        found.append(heights)
    return tuple(found)


def behind(net, times, row):
    """Return the heights behind the whole row."""
    found = states(net, times, row)
    return found[-1] if found else times


def further_limits(pair, low, high):
    """Return the limits behind a further piece of news with these marks."""
    least, greatest = pair
    least = low if least is None else clamped(least, low, high)
    greatest = high if greatest is None else clamped(greatest, low, high)
    return least, greatest


def limits_of(bounds, row, event):
    """Return the limits of the event behind the row."""
    pair = (None, None)
    for other, time in row:
        low, high = marks(time, bounds[event][other], bounds[other][event])
        pair = further_limits(pair, low, high)
    return pair


def limits(net, row):
    """Return the tuple of the limits of each event."""
    check_net(net)
    check_row("row", row, net[0])
    bounds = lengths_of(possible_walks(net))
    return tuple([limits_of(bounds, row, event) for event in range(net[0])])


def settled(net, row):
    """Return the tuple with the height of each event that is settled, and None for each other one."""
    return tuple([least if least == greatest else None for least, greatest in limits(net, row)])


def limit_evidence(net, row, event):
    """Return accepted evidence for the limits of the event."""
    check_net(net)
    check_row("row", row, net[0])
    check_event(net, "event", event)
    walks = possible_walks(net)
    bounds = lengths_of(walks)
    found = []
    for other, _ in row:
        there = (bounds[event][other], evidence_of(walks, event, other))
        back = (bounds[other][event], evidence_of(walks, other, event))
        found.append((there, back))
    return tuple(found)


def are_limits(value):
    """Tell whether the value has the form of limits: a pair of integers or None."""
    if not isinstance(value, tuple) or len(value) != 2:
        return False
    return all([limit is None or is_whole(limit) for limit in value])


def is_shown_bound(net, start, end, value):
    """Tell whether the value is a number, or None, with evidence that it is the tight bound."""
    if not isinstance(value, tuple) or len(value) != 2:
        return False
    number, evidence = value
    return is_evidence(net, start, end, number, evidence)


def are_shown_bounds(net, event, other, value):
    """Tell whether the value is both bounds of the event and the other one, there and back, with their evidence."""
    if not isinstance(value, tuple) or len(value) != 2:
        return False
    there, back = value
    return is_shown_bound(net, event, other, there) and is_shown_bound(net, other, event, back)


def is_limit_evidence(net, row, event, pair, value):
    """Tell whether the value is evidence that the pair is the limits of the event."""
    if not are_limits(pair) or not isinstance(value, tuple) or len(value) != len(row):
        return False
    found = (None, None)
    for (other, time), item in zip(row, value):
        if not are_shown_bounds(net, event, other, item):
            return False
        there, back = item
        low, high = marks(time, there[0], back[0])
        found = further_limits(found, low, high)
    return found == pair


def accepts_limits(net, row, event, pair, value):
    """Tell whether the value is accepted evidence that the pair is the limits of the event."""
    check_net(net)
    check_row("row", row, net[0])
    check_event(net, "event", event)
    # The judge needs no walks, but it refuses a net that cannot be kept.
    possible_walks(net)
    return is_limit_evidence(net, row, event, pair, value)
