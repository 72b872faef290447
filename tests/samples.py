"""Nets, times and wrong values that several test files use."""

from itertools import product

NET = (3, ((0, 1, 5, 10), (1, 2, 0, None)))
FULL_NET = (3, ((0, 1, -100, 100),) * 12)

# Kinds of rules: both sides, one side only, one time only, and a low greater than the high.
SIDES = ((-2, 3), (1, None), (None, -1), (2, 2), (3, 1))


def sample_nets():
    """Nets of one to three events: all of one rule, and many of two."""
    nets = [(1, ()), (2, ()), (3, ()), (6, ())]
    for low, high in SIDES:
        nets.append((2, ((0, 1, low, high),)))
        nets.append((2, ((1, 0, low, high),)))
    pairs = ((0, 1), (1, 2), (2, 0), (2, 1))
    for (start, end), (first, second) in product(pairs, pairs):
        for (low, high), (least, most) in product(SIDES, SIDES):
            nets.append((3, ((start, end, low, high), (first, second, least, most))))
    return nets


def sample_times(net):
    """Times for the net: all combinations of some small numbers."""
    return list(product((-3, 0, 1, 4) if net[0] < 4 else (0, 2), repeat=net[0]))


def holds(rule, times):
    """Tell whether a rule holds, as point 5 says it."""
    start, end, low, high = rule
    difference = times[end] - times[start]
    return (low is None or low <= difference) and (high is None or difference <= high)


class AnyEqual:
    """A value that claims to be equal to everything."""

    def __eq__(self, other):
        return True

    __hash__ = None


NO_INTEGERS = (True, False, None, "1", 1.0, (1,), [1], b"1", AnyEqual())

WRONG_RULES = (
    # The kind and the number of items.
    None, True, 0, "rule", (), [0, 1, 5, 10], (0, 1, 5), (0, 1, 5, 10, 10), (0, 1),
    # The events, for a net of three.
    (1, 1, 5, 10), (-1, 1, 5, 10), (0, -1, 5, 10), (3, 1, 5, 10), (0, 3, 5, 10),
    *[(value, 2, 5, 10) for value in NO_INTEGERS],
    *[(2, value, 5, 10) for value in NO_INTEGERS],
    # The sides.
    (0, 1, None, None), (0, 1, -101, 10), (0, 1, 101, None), (0, 1, 5, 101), (0, 1, None, -101),
    *[(0, 1, value, 10) for value in NO_INTEGERS if value is not None],
    *[(0, 1, 5, value) for value in NO_INTEGERS if value is not None],
)

WRONG_NETS = (
    None, True, 3, "net", (), (3,), (3, (), ()), [3, ()], {3: ()},
    *[(size, ()) for size in (0, 7, -1, 100)],
    *[(size, ()) for size in NO_INTEGERS],
    *[(3, rules) for rules in (None, True, 0, "", [], [(0, 1, 5, 10)], {})],
    (3, ((0, 1, 5, 10),) * 13),
    # A single event has no rules, and a smaller net not the same ones.
    (1, ((0, 1, 5, 10),)), (1, ((0, 0, 5, 10),)), (2, NET[1]),
    *[(3, (rule,)) for rule in WRONG_RULES],
    *[(3, ((0, 1, 5, 10),) * 11 + (rule,)) for rule in WRONG_RULES],
    (3, ((0, 1, 5), (0, 1, 5, 10))),
)

# For a net of three events.
WRONG_TIMES = (
    None, True, 0, "000", (), (0,), (0, 0), (0, 0, 0, 0), [0, 0, 0],
    *[(0, 0, time) for time in (-1001, 1001, *NO_INTEGERS)],
    *[(time, 0, 0) for time in (-1001, 1001, *NO_INTEGERS)],
)

WRONG_EVENTS = (-1, 3, *NO_INTEGERS)

# For the net NET.
WRONG_WALKS = (
    None, True, 0, "walk", [], [(0, "high")], {}, (0, "high"), AnyEqual(),
    # No edges: of another kind, without such a rule, or of a side that is None.
    (None,), (0,), ("high",), ([0, "high"],), ((0,),), ((0, "high", 1),), ((),),
    ((2, "high"),), ((-1, "low"),), ((1, "high"),), ((0, "High"),), ((0, ""),),
    ((0, None),), ((0, 1),), ((0, AnyEqual()),),
    *[((index, "high"),) for index in NO_INTEGERS],
    *[((index, "low"),) for index in NO_INTEGERS],
    # Edges that do not follow one another.
    ((0, "high"), (0, "high")), ((0, "low"), (1, "low")), ((0, "high"), (1, "low")),
    ((0, "low"), (0, "high"), (0, "high")),
    # A wrong edge behind right ones.
    ((0, "high"), (1, "high")), ((1, "low"), (0, "low"), None), ((0, "high"), [0, "low"]),
)

WRONG_ORDERS = (
    None, True, 0, "012", (), (0, 1), (0, 1, 2, 3), (0, 1, 1), (0, 1, 3), (-1, 0, 1), (0, 0, 1, 2), [0, 1, 2],
    *[(0, value, 2) for value in NO_INTEGERS], (False, True, 2),
)

WRONG_CHOICES = (
    None, True, 0, "0", (), [], [0, 1], (1, 0), (0, 2, 1), (0, 0), (1, 1, 2), (3,), (0, 3), (-1, 0), (0, 1, 2, 3),
    *[(value,) for value in NO_INTEGERS], *[(value, 2) for value in NO_INTEGERS],
)
