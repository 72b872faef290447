"""Idle steps, and reductions that leave them out."""

from allbide.errors import BadValue
from allbide.nets import MOST_EVENTS, is_integer
from allbide.steps import RAISE, check_steps, do_commute


def is_index(value, steps):
    """Tell whether the value is an index of one of the steps."""
    return is_integer(value, 0, len(steps) - 1)


def is_idle_among(steps, left, index, by):
    """Tell whether the step with the index is idle by the other one, among the steps with the indexes that are left."""
    word, event, time = steps[index]
    other_word, other_event, other_time = steps[by]
    if index == by or word != other_word or event != other_event:
        return False
    further = other_time - time if word == RAISE else time - other_time
    if by > index:
        return further >= 0
    # Steps of the same word commute, so that only those of the other one are asked for by this.
    return further > 0 and all([do_commute(steps[index], steps[k]) for k in left if by < k < index])


def is_idle_by(steps, index, by):
    """Tell whether the step with the index is idle by the other one."""
    check_steps(steps, MOST_EVENTS)
    if not is_index(index, steps):
        raise BadValue("index")
    if not is_index(by, steps):
        raise BadValue("by")
    return is_idle_among(steps, list(range(len(steps))), index, by)


def idle_pairs(steps, left):
    """Return for each idle step among those left the pair of its index and the first one by which it is idle."""
    pairs = []
    for index in left:
        reasons = [by for by in left if is_idle_among(steps, left, index, by)]
        if reasons:
            pairs.append((index, reasons[0]))
    return pairs


def idle_steps(steps):
    """Return the tuple of the indexes of all idle steps, ascending."""
    check_steps(steps, MOST_EVENTS)
    return tuple([index for index, _ in idle_pairs(steps, list(range(len(steps))))])


def reduction(steps):
    """Return the told reduction."""
    check_steps(steps, MOST_EVENTS)
    left = list(range(len(steps)))
    told = []
    pairs = idle_pairs(steps, left)
    while pairs:
        told.append(pairs[0])
        left.remove(pairs[0][0])
        pairs = idle_pairs(steps, left)
    return tuple(told)


def left_behind(steps, value):
    """Return the indexes that are left behind the value, ascending, or None if it is not a right reduction."""
    if not isinstance(value, tuple):
        return None
    left = list(range(len(steps)))
    for pair in value:
        if not isinstance(pair, tuple) or len(pair) != 2:
            return None
        index, by = pair
        if not is_index(index, steps) or not is_index(by, steps):
            return None
        if index not in left or by not in left or not is_idle_among(steps, left, index, by):
            return None
        left.remove(index)
    return left


def reduced(steps, value):
    """Return the steps that are left behind the value, or None if it is not a right reduction."""
    check_steps(steps, MOST_EVENTS)
    left = left_behind(steps, value)
    return None if left is None else tuple([steps[index] for index in left])


def remaining(steps):
    """Return the remaining steps."""
    return reduced(steps, reduction(steps))
