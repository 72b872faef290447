"""Nets made from other nets."""

from allbide.errors import BadValue, TooLarge
from allbide.nets import MOST_RULES, check_net, is_event, is_rule


def are_events(value, size):
    """Tell whether the value is a tuple of events of a net of this size."""
    return isinstance(value, tuple) and all([is_event(event, size) for event in value])


def is_order(value, size):
    """Tell whether the value contains each event of a net of this size exactly once."""
    return are_events(value, size) and sorted(value) == list(range(size))


def is_choice(value, size):
    """Tell whether the value is an ascending tuple of at least one event of a net of this size."""
    if not are_events(value, size) or len(value) == 0:
        return False
    return all([before < after for before, after in zip(value, value[1:])])


def turned(net):
    """Return the net turned around in time."""
    check_net(net)
    size, rules = net
    return size, tuple([(end, start, low, high) for start, end, low, high in rules])


def renamed(net, order):
    """Return the net in which order[x] is in the place of each event x."""
    check_net(net)
    size, rules = net
    if not is_order(order, size):
        raise BadValue("order")
    return size, tuple([(order[start], order[end], low, high) for start, end, low, high in rules])


def part(net, chosen):
    """Return the part of the net for the chosen events, numbered by their places in the tuple."""
    check_net(net)
    size, rules = net
    if not is_choice(chosen, size):
        raise BadValue("chosen")
    kept = []
    for start, end, low, high in rules:
        if start in chosen and end in chosen:
            kept.append((chosen.index(start), chosen.index(end), low, high))
    return len(chosen), tuple(kept)


def with_rule(net, rule):
    """Return the net with the rule behind its others."""
    check_net(net)
    size, rules = net
    if not is_rule(rule, size):
        raise BadValue("rule")
    if len(rules) == MOST_RULES:
        raise TooLarge("rules")
    return size, rules + (rule,)
