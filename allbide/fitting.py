"""Rows of news that fit in a net, and the evidence for it."""

from allbide.errors import NotPossible
from allbide.heights import are_right_heights, first_barrier, have_times, room_beside
from allbide.nets import check_event, check_net, is_integer, length_between
from allbide.news import check_row
from allbide.paths import lengths_of, possible_walks

FITS = "fits"
BARRED = "barred"


def fits(net, row):
    """Tell whether the row fits."""
    check_net(net)
    check_row("row", row, net[0])
    return first_barrier(possible_walks(net), row) is None


def told_witness(bounds, row):
    """Return the told witness of a row that fits."""
    times = {event: time for event, time in row}
    for event in range(len(bounds)):
        if event not in times:
            low, high = room_beside(bounds, event, list(times.items()))
            if low is not None:
                times[event] = low
            else:
                times[event] = 0 if high is None else high
    return tuple([times[event] for event in range(len(bounds))])


def evidence_for(net, row):
    """Return accepted evidence about the row: the told witness, or a first barrier."""
    check_net(net)
    check_row("row", row, net[0])
    walks = possible_walks(net)
    barrier = first_barrier(walks, row)
    if barrier is not None:
        return BARRED, barrier
    return FITS, told_witness(lengths_of(walks), row)


def is_witness(net, row, value):
    """Tell whether the value is a witness that the row fits."""
    return are_right_heights(net, value) and have_times(value, row)


def is_barrier(net, row, value):
    """Tell whether the value is a barrier of the row."""
    if not isinstance(value, tuple) or len(value) != 3:
        return False
    i, j, walk = value
    if not is_integer(i, 0, len(row) - 1) or not is_integer(j, 0, len(row) - 1):
        return False
    start, earlier = row[i]
    end, later = row[j]
    length = length_between(net, start, end, walk)
    return length is not None and length < later - earlier


def accepts_evidence(net, row, value):
    """Tell whether the value is accepted evidence about the row; the net need not be one that can be kept."""
    check_net(net)
    check_row("row", row, net[0])
    if not isinstance(value, tuple) or len(value) != 2 or not isinstance(value[0], str):
        return False
    word, shown = value
    if word == FITS:
        return is_witness(net, row, shown)
    return word == BARRED and is_barrier(net, row, shown)


def window(net, row, event):
    """Return the window of the event beside a row that fits."""
    check_net(net)
    check_row("row", row, net[0])
    check_event(net, "event", event)
    walks = possible_walks(net)
    if first_barrier(walks, row) is not None:
        raise NotPossible("apart")
    return room_beside(lengths_of(walks), event, row)


def fitting_beginning(net, row):
    """Return the number of pieces of news, from the first one on, that fit together."""
    check_net(net)
    check_row("row", row, net[0])
    walks = possible_walks(net)
    many = 0
    while many < len(row) and first_barrier(walks, row[:many + 1]) is None:
        many += 1
    return many
