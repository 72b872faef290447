"""From kept times to other ones: the sets of events that lead there, and the shortest way."""

from allbide.changes import is_choice
from allbide.errors import BadValue
from allbide.heights import are_right_heights, moved
from allbide.nets import check_event, check_net
from allbide.news import is_news_time
from allbide.paths import least_walks, lengths_of
from allbide.repair import check_joint_news, is_repair, moves_of


def check_told_times(net, name, times):
    """Raise BadValue with the name if they are not times that keep the net and that its events can be told."""
    if not are_right_heights(net, times) or not all([is_news_time(time) for time in times]):
        raise BadValue(name)


def check_ends(net, first, second):
    """Raise BadValue with the name of the first of the three arguments that has a wrong form."""
    check_net(net)
    check_told_times(net, "first", first)
    check_told_times(net, "second", second)


def bounds_of(net):
    """Return the tight bounds of a net that has kept times, so that it can be kept."""
    return lengths_of(least_walks(net))


def news_for(events, second):
    """Return the joint news that tell the events their times in the second ones."""
    return tuple([(event, second[event]) for event in events])


def is_event_set(value, size):
    """Tell whether the value is an ascending tuple of events of a net of this size, perhaps of none."""
    return isinstance(value, tuple) and (len(value) == 0 or is_choice(value, size))


def leads(net, first, second, chosen):
    """Tell whether the set of events leads from the first to the second times."""
    check_ends(net, first, second)
    if not is_event_set(chosen, net[0]):
        raise BadValue("chosen")
    return moved(bounds_of(net), first, news_for(chosen, second)) == second


def does_carry(bounds, first, second, event, other):
    """Tell whether the event carries the other one; nothing is checked."""
    if event == other:
        return False
    # A bound that is None is equal to no difference.
    if second[other] > first[other]:
        return bounds[other][event] == second[event] - second[other]
    if second[other] < first[other]:
        return bounds[event][other] == second[other] - second[event]
    return False


def carries(net, first, second, event, other):
    """Tell whether the event carries the other one, which moves."""
    check_ends(net, first, second)
    check_event(net, "event", event)
    check_event(net, "other", other)
    return does_carry(bounds_of(net), first, second, event, other)


def carrying_table(bounds, first, second):
    """Return a row for each event that tells of each event whether the one carries the other."""
    events = range(len(first))
    return [[does_carry(bounds, first, second, event, other) for other in events] for event in events]


def bundle_of(carrying, event):
    """Return the bundle of an event that moves, an ascending tuple."""
    both = [carrying[event][other] and carrying[other][event] for other in range(len(carrying))]
    return tuple([other for other in range(len(carrying)) if other == event or both[other]])


def is_source(carrying, bundle):
    """Tell whether no event outside of the bundle carries one of it."""
    outside = [event for event in range(len(carrying)) if event not in bundle]
    return not any([carrying[event][other] for event in outside for other in bundle])


def sources_of(bounds, first, second):
    """Return the list of the sources, in ascending order; nothing is checked."""
    carrying = carrying_table(bounds, first, second)
    found = []
    for event in range(len(first)):
        if first[event] != second[event]:
            bundle = bundle_of(carrying, event)
            # A bundle is met at each of its events, and taken at the least one.
            if bundle[0] == event and is_source(carrying, bundle):
                found.append(bundle)
    return found


def sources(net, first, second):
    """Return the list of the sources, ascending tuples of events, in ascending order."""
    check_ends(net, first, second)
    return sources_of(bounds_of(net), first, second)


def way_along(found, second):
    """Return the way, from the sources in ascending order."""
    return news_for([source[0] for source in found], second)


def way(net, first, second):
    """Return the way from the first to the second times, a tuple of news."""
    return way_along(sources(net, first, second), second)


def hold_of(first, second, source):
    """Return a hold for the least event of the source."""
    # All of a source move in the same direction, and no event outside stops them one step ahead of their times.
    short = -1 if second[source[0]] > first[source[0]] else 1
    heights = [time + short if event in source else time for event, time in enumerate(second)]
    return source, tuple(heights)


def way_evidence(net, first, second):
    """Return accepted evidence for the way."""
    check_ends(net, first, second)
    walks = least_walks(net)
    found = sources_of(lengths_of(walks), first, second)
    moves = moves_of(walks, first, way_along(found, second), second)
    return moves, tuple([hold_of(first, second, source) for source in found])


def stays_short(old, new, height):
    """Tell whether an event that moves from the old to the new time, another one, does not get there at the height."""
    if old < new:
        return height < new
    return old > new and height > new


def is_hold(net, first, second, event, value):
    """Tell whether the value is a hold for the event."""
    if not isinstance(value, tuple) or len(value) != 2:
        return False
    chosen, heights = value
    if not is_choice(chosen, net[0]) or event not in chosen or not are_right_heights(net, heights):
        return False
    if any([heights[other] != second[other] for other in range(net[0]) if other not in chosen]):
        return False
    return stays_short(first[event], second[event], heights[event])


def are_holds(net, first, second, row, value):
    """Tell whether the value is a hold for each piece of news of the row, and their sets have no event in common."""
    if not isinstance(value, tuple) or len(value) != len(row):
        return False
    if not all([is_hold(net, first, second, event, item) for (event, _), item in zip(row, value)]):
        return False
    held = [event for chosen, _ in value for event in chosen]
    return len(set(held)) == len(held)


def accepts_way(net, first, second, row, value):
    """Tell whether the value is accepted evidence that the row is as short as possible."""
    check_ends(net, first, second)
    check_joint_news(net, row)
    if not isinstance(value, tuple) or len(value) != 2:
        return False
    moves, holds = value
    return is_repair(net, first, row, (second, moves)) and are_holds(net, first, second, row, holds)
