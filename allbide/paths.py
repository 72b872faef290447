"""The least walks between the events of a net.

A table of walks has a row for each start, with a pair (length, walk) for each end, or None where
there is no walk.
"""

from allbide.errors import BadValue, NotPossible
from allbide.nets import all_edges, check_net


def walks_without_edges(size):
    """Return the table of the walks without edges: from each event to itself."""
    return [[(0, ()) if start == end else None for end in range(size)] for start in range(size)]


def longer_row(row, courses):
    """Return the row of the least walks that have at most one edge more than those of the row."""
    longer = list(row)
    for edge, start, end, weight in courses:
        if row[start] is not None:
            length, walk = row[start]
            if longer[end] is None or length + weight < longer[end][0]:
                longer[end] = (length + weight, walk + (edge,))
    return longer


def round_below(walks):
    """Return the first walk of the table that leads around with a length below 0, or None."""
    for event, row in enumerate(walks):
        length, walk = row[event]
        if length < 0:
            return walk
    return None


def least_walks(net):
    """Return the table of the least walks of the net.

    If the net cannot be kept, there are no least walks: the table then has rounds below 0, with as
    few edges as such a round can have.
    """
    size = net[0]
    courses = all_edges(net)
    walks = walks_without_edges(size)
    # If some round is below 0, then one with at most as many edges as there are events is.
    for _ in range(size):
        walks = [longer_row(row, courses) for row in walks]
        if round_below(walks) is not None:
            return walks
    return walks


def possible_walks(net):
    """Return the table of the least walks, or raise NotPossible("net") if the net cannot be kept."""
    walks = least_walks(net)
    if round_below(walks) is not None:
        raise NotPossible("net")
    return walks


def checked_walks(net):
    """Return the table of the least walks, or raise BadValue("net") if it is no net that can be kept."""
    check_net(net)
    walks = least_walks(net)
    if round_below(walks) is not None:
        raise BadValue("net")
    return walks


def lengths_of(walks):
    """Return the tuple of the rows of the lengths of the walks: the tight bounds, if the walks are the least."""
    return tuple([tuple([None if found is None else found[0] for found in row]) for row in walks])
