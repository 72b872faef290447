"""Rows of news that do the same in every net, and the shortest of them."""

from allbide.idle import reduced, reduction, remaining
from allbide.nets import MOST_EVENTS
from allbide.news import check_row
from allbide.steps import layers, steps_of


def check_rows(first, second):
    """Raise BadValue with the name of the first of the two that is not a row of news."""
    check_row("first", first, MOST_EVENTS)
    check_row("second", second, MOST_EVENTS)


def are_alike(first, second):
    """Tell whether the two rows are alike."""
    check_rows(first, second)
    return layers(remaining(steps_of(first))) == layers(remaining(steps_of(second)))


def alike_evidence(first, second):
    """Return the pair of the told reductions of both rows, or None if they are not alike."""
    if not are_alike(first, second):
        return None
    return reduction(steps_of(first)), reduction(steps_of(second))


def accepts_alike(first, second, value):
    """Tell whether the value is evidence that the rows are alike."""
    check_rows(first, second)
    if not isinstance(value, tuple) or len(value) != 2:
        return False
    one = reduced(steps_of(first), value[0])
    other = reduced(steps_of(second), value[1])
    if one is None or other is None:
        return False
    return layers(one) == layers(other)


def left_out(row):
    """Return the tuple of the indexes of the pieces of news that are left out, ascending."""
    idle = [index for index, _ in reduction(steps_of(row))]
    # The steps of the piece k have the indexes 2 * k and 2 * k + 1.
    return tuple([k for k in range(len(row)) if 2 * k in idle and 2 * k + 1 in idle])


def shortest(row):
    """Return the shortest row."""
    out = left_out(row)
    return tuple([news for k, news in enumerate(row) if k not in out])
