"""Repair: heights behind news, and the moves that explain them."""

from allbide.errors import BadValue, NotPossible
from allbide.heights import are_right_heights, check_kept_times, first_barrier, have_times, moved
from allbide.nets import is_whole, length_between
from allbide.news import are_joint_news, is_news
from allbide.paths import checked_walks, lengths_of


def check_joint_news(net, row):
    """Raise BadValue("row") if it is not joint news of the net."""
    if not are_joint_news(row, net[0]):
        raise BadValue("row")


def check_fit(walks, row):
    """Raise NotPossible("apart") if the joint news do not fit, by the least walks."""
    if first_barrier(walks, row) is not None:
        raise NotPossible("apart")


def fit(net, row):
    """Tell whether the joint news fit."""
    walks = checked_walks(net)
    check_joint_news(net, row)
    return first_barrier(walks, row) is None


def told(net, times, news):
    """Return the heights behind one piece of news."""
    walks = checked_walks(net)
    check_kept_times(net, times)
    if not is_news(news, net[0]):
        raise BadValue("news")
    return moved(lengths_of(walks), times, (news,))


def repaired(net, times, row):
    """Return the repaired heights."""
    walks = checked_walks(net)
    check_kept_times(net, times)
    check_joint_news(net, row)
    check_fit(walks, row)
    return moved(lengths_of(walks), times, row)


def told_height(time, length, raised):
    """Return the height to which a walk of this length moves an event, from another one at this time.

    An event is raised along a walk from it to the other one, and lowered along a walk back.
    """
    return time - length if raised else time + length


def explaining_walk(walks, row, event, old, new):
    """Return the first of the least walks that explains the move of the event, or None."""
    raised = new > old
    for other, time in row:
        found = walks[event][other] if raised else walks[other][event]
        if found is not None and told_height(time, found[0], raised) == new:
            return found[1]
    return None


def moves_of(walks, times, row, heights):
    """Return the tuple of the moves from the times to the repaired heights."""
    moves = []
    for event, (old, new) in enumerate(zip(times, heights)):
        if old != new:
            moves.append((event, old, new, explaining_walk(walks, row, event, old, new)))
    return tuple(moves)


def repair(net, times, row):
    """Return an accepted repair."""
    walks = checked_walks(net)
    check_kept_times(net, times)
    check_joint_news(net, row)
    check_fit(walks, row)
    heights = moved(lengths_of(walks), times, row)
    return heights, moves_of(walks, times, row, heights)


def explains(net, row, event, old, new, walk):
    """Tell whether the walk explains the move of the event from the old to the new height."""
    raised = new > old
    for other, time in row:
        start, end = (event, other) if raised else (other, event)
        length = length_between(net, start, end, walk)
        if length is not None and told_height(time, length, raised) == new:
            return True
    return False


def is_move(net, row, event, old, new, value):
    """Tell whether the value is a move of this event from the old to the new height, with a walk that explains it."""
    if not isinstance(value, tuple) or len(value) != 4:
        return False
    if not all([is_whole(number) for number in value[:3]]) or value[:3] != (event, old, new):
        return False
    return explains(net, row, event, old, new, value[3])


def are_moves(net, times, row, heights, value):
    """Tell whether the value is the moves of exactly the events that move, in ascending order."""
    changes = [(event, old, new) for event, (old, new) in enumerate(zip(times, heights)) if old != new]
    if not isinstance(value, tuple) or len(value) != len(changes):
        return False
    return all([is_move(net, row, event, old, new, item) for (event, old, new), item in zip(changes, value)])


def is_repair(net, times, row, value):
    """Tell whether the value is a repair of the times for the joint news; the arguments before it are not checked."""
    if not isinstance(value, tuple) or len(value) != 2:
        return False
    heights, moves = value
    if not are_right_heights(net, heights) or not have_times(heights, row):
        return False
    return are_moves(net, times, row, heights, moves)


def accepts_repair(net, times, row, value):
    """Tell whether the judge accepts the value as a repair."""
    walks = checked_walks(net)
    check_kept_times(net, times)
    check_joint_news(net, row)
    check_fit(walks, row)
    return is_repair(net, times, row, value)
