"""Tight bounds of a net, rounds below 0, and the evidence for both."""

from allbide.changes import is_choice
from allbide.heights import are_right_heights, heights_of, moved
from allbide.nets import all_edges, check_event, check_net, edge_course, is_whole, length_between
from allbide.paths import least_walks, lengths_of, possible_walks, round_below


def can_keep(net):
    """Tell whether the net can be kept."""
    return told_round(net) is None


def tight(net):
    """Return the tuple of the rows of tight bounds."""
    check_net(net)
    return lengths_of(possible_walks(net))


def told_round(net):
    """Return a round below 0 with as few edges as such a round can have, or None if the net can be kept."""
    check_net(net)
    return round_below(least_walks(net))


def some_heights(net):
    """Return right heights, or None if the net cannot be kept."""
    check_net(net)
    walks = least_walks(net)
    if round_below(walks) is not None:
        return None
    return heights_of(walks)


def shows_kept(net, value):
    """Tell whether the value is right heights."""
    check_net(net)
    return are_right_heights(net, value)


def shows_round(net, value):
    """Tell whether the value is a round whose length is below 0."""
    check_net(net)
    if not isinstance(value, tuple) or len(value) == 0:
        return False
    course = edge_course(net, value[0])
    if course is None:
        return False
    length = length_between(net, course[0], course[0], value)
    return length is not None and length < 0


def evidence_of(walks, start, end):
    """Return evidence for the tight bound of the two events, from the least walks of a net that can be kept."""
    heights = heights_of(walks)
    found = walks[start][end]
    if found is None:
        return heights, tuple([event for event, other in enumerate(walks[start]) if other is None])
    length, walk = found
    # Both pieces of news fit with one another, as the bound is tight, so that right heights have them.
    return walk, moved(lengths_of(walks), heights, ((start, 0), (end, length)))


def bound_evidence(net, start, end):
    """Return evidence for the tight bound of the two events."""
    check_net(net)
    check_event(net, "start", start)
    check_event(net, "end", end)
    return evidence_of(possible_walks(net), start, end)


def shows_no_walk(net, start, end, value):
    """Tell whether the value is evidence that no walk leads from the start to the end."""
    heights, chosen = value
    if not are_right_heights(net, heights) or not is_choice(chosen, net[0]):
        return False
    if end not in chosen or start in chosen:
        return False
    return all([first in chosen or last not in chosen for _, first, last, _ in all_edges(net)])


def shows_bound(net, start, end, number, value):
    """Tell whether the value is evidence that the number, an integer, is the tight bound of the two events."""
    walk, heights = value
    if length_between(net, start, end, walk) != number:
        return False
    return are_right_heights(net, heights) and heights[end] - heights[start] == number


def is_evidence(net, start, end, number, value):
    """Tell whether the value is evidence that the number, or None, is the tight bound; the net is not checked."""
    if not isinstance(value, tuple) or len(value) != 2:
        return False
    if number is None:
        return shows_no_walk(net, start, end, value)
    return is_whole(number) and shows_bound(net, start, end, number, value)


def accepts_bound(net, start, end, number, value):
    """Tell whether the value is evidence that the number is the tight bound of the two events."""
    check_net(net)
    check_event(net, "start", start)
    check_event(net, "end", end)
    return is_evidence(net, start, end, number, value)
