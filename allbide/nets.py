"""Nets of rules, times that keep them, and walks along their edges."""

from allbide.errors import BadValue

MOST_EVENTS = 6
MOST_RULES = 12
GREATEST_SIDE = 100
GREATEST_TIME = 1000


def is_whole(value):
    """Tell whether the value is an integer, of any size."""
    # Python counts True and False as integers, the document does not.
    return isinstance(value, int) and not isinstance(value, bool)


def is_integer(value, least, greatest):
    """Tell whether the value is an integer from the least to the greatest one."""
    return is_whole(value) and least <= value <= greatest


def is_event(value, size):
    """Tell whether the value is an event of a net of this size."""
    return is_integer(value, 0, size - 1)


def is_side(value):
    """Tell whether the value can be the low or the high of a rule."""
    return value is None or is_integer(value, -GREATEST_SIDE, GREATEST_SIDE)


def is_rule(value, size):
    """Tell whether the value is a rule for the events of a net of this size."""
    if not isinstance(value, tuple) or len(value) != 4:
        return False
    start, end, low, high = value
    if not is_event(start, size) or not is_event(end, size) or start == end:
        return False
    if low is None and high is None:
        return False
    return is_side(low) and is_side(high)


def is_net(value):
    """Tell whether the value is a net."""
    if not isinstance(value, tuple) or len(value) != 2:
        return False
    size, rules = value
    if not is_integer(size, 1, MOST_EVENTS):
        return False
    if not isinstance(rules, tuple) or len(rules) > MOST_RULES:
        return False
    return all([is_rule(rule, size) for rule in rules])


def is_times(value, net):
    """Tell whether the value is times for the net, which is not checked."""
    if not isinstance(value, tuple) or len(value) != net[0]:
        return False
    return all([is_integer(time, -GREATEST_TIME, GREATEST_TIME) for time in value])


def check_net(net):
    """Raise BadValue("net") if it is not a net."""
    if not is_net(net):
        raise BadValue("net")


def check_times(net, times):
    """Raise BadValue("times") if they are not times for the net."""
    if not is_times(times, net):
        raise BadValue("times")


def check_event(net, name, event):
    """Raise BadValue with the name of the argument if it is not an event of the net."""
    if not is_event(event, net[0]):
        raise BadValue(name)


def rule_excess(rule, times):
    """Return the excess of one rule; it is 0 exactly if the rule holds."""
    start, end, low, high = rule
    difference = times[end] - times[start]
    # The low comes first: it tells the excess if the low is greater than the high and both are missed.
    if low is not None and difference < low:
        return difference - low
    if high is not None and difference > high:
        return difference - high
    return 0


def rule_excesses(net, times):
    """Return the excesses of the rules, for integers of any size in the place of times."""
    return tuple([rule_excess(rule, times) for rule in net[1]])


def excess(net, times):
    """Return the tuple of the excesses of the rules."""
    check_net(net)
    check_times(net, times)
    return rule_excesses(net, times)


def first_broken(net, times):
    """Return the index of the first rule that does not hold, or None."""
    for index, missed in enumerate(excess(net, times)):
        if missed != 0:
            return index
    return None


def keeps(net, times):
    """Tell whether the times keep the net."""
    return first_broken(net, times) is None


def edge_course(net, value):
    """Return the start, the end and the weight of an edge, or None if the value is no edge of the net."""
    if not isinstance(value, tuple) or len(value) != 2:
        return None
    index, side = value
    if not is_integer(index, 0, len(net[1]) - 1) or not isinstance(side, str):
        return None
    start, end, low, high = net[1][index]
    if side == "high" and high is not None:
        return start, end, high
    if side == "low" and low is not None:
        return end, start, -low
    return None


def all_edges(net):
    """Return the tuple of the edges of the net, which is not checked."""
    found = []
    for index in range(len(net[1])):
        for edge in ((index, "high"), (index, "low")):
            course = edge_course(net, edge)
            if course is not None:
                start, end, weight = course
                found.append((edge, start, end, weight))
    return tuple(found)


def edges(net):
    """Return the tuple of the edges in their order, each as (edge, start, end, weight)."""
    check_net(net)
    return all_edges(net)


def walk_end(net, start, value):
    """Return the event to which the value is a walk from the start, or None if it is no walk from there."""
    if not isinstance(value, tuple):
        return None
    place = start
    for edge in value:
        course = edge_course(net, edge)
        if course is None or course[0] != place:
            return None
        place = course[1]
    return place


def weight_sum(net, walk):
    """Return the sum of the weights of the edges."""
    return sum([edge_course(net, edge)[2] for edge in walk])


def length_between(net, start, end, value):
    """Return the length of the value if it is a walk from the start to the end, or None if it is not."""
    if walk_end(net, start, value) != end:
        return None
    return weight_sum(net, value)


def is_walk(net, start, end, value):
    """Tell whether the value is a walk from the start to the end."""
    check_net(net)
    check_event(net, "start", start)
    check_event(net, "end", end)
    return walk_end(net, start, value) == end


def walk_length(net, walk):
    """Return the sum of the weights of the edges of the walk."""
    check_net(net)
    ends = [walk_end(net, event, walk) for event in range(net[0])]
    if all([end is None for end in ends]):
        raise BadValue("walk")
    return weight_sum(net, walk)
