"""Nets, times, news, steps and wrong values that several test files use."""

from itertools import product

from allbide.errors import BadValue, NotPossible, TooLarge
from allbide.nets import edges

NET = (3, ((0, 1, 5, 10), (1, 2, 0, None)))
# The net of point 29.
SHORT_NET = (3, ((0, 1, 5, 10), (1, 2, 0, None), (0, 2, None, 60)))
FULL_NET = (3, ((0, 1, -100, 100),) * 12)

# Kinds of rules: both sides, one side only, one time only, and a low greater than the high.
SIDES = ((-2, 3), (1, None), (None, -1), (2, 2), (3, 1))


def sample_nets():
    """Nets of one to three events: all of one rule, and many of two."""
    nets = [(1, ()), (2, ()), (3, ()), (6, ())]
    for low, high in SIDES:
        nets.append((2, ((0, 1, low, high),)))
        nets.append((2, ((1, 0, low, high),)))
    pairs = ((0, 1), (1, 2), (2, 0), (2, 1))
    for (start, end), (first, second) in product(pairs, pairs):
        for (low, high), (least, most) in product(SIDES, SIDES):
            nets.append((3, ((start, end, low, high), (first, second, least, most))))
    return nets


def sample_times(net):
    """Times for the net: all combinations of some small numbers."""
    return list(product((-3, 0, 1, 4) if net[0] < 4 else (0, 2), repeat=net[0]))


def holds(rule, times):
    """Tell whether a rule holds, as point 5 says it."""
    start, end, low, high = rule
    difference = times[end] - times[start]
    return (low is None or low <= difference) and (high is None or difference <= high)


def walks_up_to(net, most):
    """All walks of at most so many edges, each with its start, end and length."""
    found = [((), event, event, 0) for event in range(net[0])]
    longest = found
    for _ in range(most):
        longest = [
            (walk + (edge,), first, end, length + weight)
            for walk, first, last, length in longest
            for edge, start, end, weight in edges(net)
            if start == last
        ]
        found = found + longest
    return found


def ring(size, slack):
    """A net of one ring of rules: going around it on the lows, in as many edges as it has events, has this length."""
    rules = tuple((k, k + 1, 1, None) for k in range(size - 1))
    return size, rules + ((size - 1, 0, 1 - size - slack, None),)


class Numbers:
    """Numbers that look arbitrary, and are the same in each run and under each version of Python."""

    def __init__(self, seed):
        self.state = seed

    def below(self, many):
        """The next number from 0 to many less 1."""
        self.state = (self.state * 6364136223846793005 + 1442695040888963407) % 2 ** 64
        return (self.state >> 33) % many

    def between(self, least, greatest):
        """The next number from the least to the greatest."""
        return least + self.below(greatest - least + 1)

    def choice(self, values):
        """One of the values."""
        return values[self.below(len(values))]

    def pair(self, size):
        """Two different events."""
        start = self.below(size)
        return start, (start + 1 + self.below(size - 1)) % size


def kept_pairs(seed, many, sizes=(1, 2, 3, 4, 5, 6), far=20):
    """Nets that can be kept, each with times that keep it."""
    numbers = Numbers(seed)
    found = []
    while len(found) < many:
        size = numbers.choice(sizes)
        times = tuple(numbers.between(-far, far) for _ in range(size))
        rules = []
        for _ in range(numbers.below(13) if size > 1 else 0):
            start, end = numbers.pair(size)
            difference = times[end] - times[start]
            low, high = difference - numbers.below(9), difference + numbers.below(9)
            rules.append((start, end) + numbers.choice(((low, high), (low, None), (None, high))))
        found.append(((size, tuple(rules)), times))
    return found


def varied_nets(seed, many, sizes=(2, 3, 4, 5, 6)):
    """Nets of which some can be kept and some cannot."""
    numbers = Numbers(seed)
    found = []
    while len(found) < many:
        size = numbers.choice(sizes)
        rules = []
        for _ in range(numbers.below(2 * size + 1)):
            low = numbers.between(-9, 5)
            high = low + numbers.between(-1, 9)
            rules.append(numbers.pair(size) + numbers.choice(((low, high), (low, None), (None, high))))
        found.append((size, tuple(rules)))
    return found


def some_rows(seed, many, size, most=8, far=25):
    """Rows of news of events of a net of this size."""
    numbers = Numbers(seed)
    return [
        tuple((numbers.below(size), numbers.between(-far, far)) for _ in range(numbers.below(most + 1)))
        for _ in range(many)
    ]


def short_rows(most, news):
    """All rows of at most so many of these pieces of news."""
    return [row for many in range(most + 1) for row in product(news, repeat=many)]


def like_rows(seed, many, size):
    """Pairs of rows of which many are alike: the second one is the first one with pieces told again or left out."""
    numbers = Numbers(seed)
    found = []
    for row in some_rows(seed, many, size, far=2):
        other = list(row)
        for _ in range(numbers.below(3)):
            place = numbers.below(len(other) + 1)
            if other and numbers.below(2):
                del other[min(place, len(other) - 1)]
            elif other and len(other) < 8:
                other.insert(place, other[place - 1])
        found.append((row, tuple(other)))
    return found


def some_steps(seed, many, size, most=8, far=4):
    """Tuples of steps of events of a net of this size."""
    numbers = Numbers(seed)
    return [
        tuple(
            (numbers.choice(("raise", "lower")), numbers.below(size), numbers.between(-far, far))
            for _ in range(numbers.below(most + 1))
        )
        for _ in range(many)
    ]


def later_steps(steps, many):
    """The steps with all times put later by this number."""
    return tuple((word, event, time + many) for word, event, time in steps)


def exchanged(steps):
    """The steps with each raise exchanged for a lower, and the other way round, and each time multiplied by -1."""
    words = {"raise": "lower", "lower": "raise"}
    return tuple((words[word], event, -time) for word, event, time in steps)


def later(row, many):
    """The row with all times put later by this number."""
    return tuple((event, time + many) for event, time in row)


def negative(net):
    """The net with all numbers multiplied by -1, and low and high of each rule exchanged."""
    size, rules = net
    return size, tuple(
        (start, end, None if high is None else -high, None if low is None else -low)
        for start, end, low, high in rules
    )


def refused(function, *values):
    """The error that the call raises, as a pair of its class and its word, or None."""
    try:
        function(*values)
    except BadValue as error:
        return BadValue, error.name
    except NotPossible as error:
        return NotPossible, error.why
    except TooLarge as error:
        return TooLarge, error.what
    return None


class AnyEqual:
    """A value that claims to be equal to everything."""

    def __eq__(self, other):
        return True

    __hash__ = None


NO_INTEGERS = (True, False, None, "1", 1.0, (1,), [1], b"1", AnyEqual())

WRONG_RULES = (
    # The kind and the number of items.
    None, True, 0, "rule", (), [0, 1, 5, 10], (0, 1, 5), (0, 1, 5, 10, 10), (0, 1),
    # The events, for a net of three.
    (1, 1, 5, 10), (-1, 1, 5, 10), (0, -1, 5, 10), (3, 1, 5, 10), (0, 3, 5, 10),
    *[(value, 2, 5, 10) for value in NO_INTEGERS],
    *[(2, value, 5, 10) for value in NO_INTEGERS],
    # The sides.
    (0, 1, None, None), (0, 1, -101, 10), (0, 1, 101, None), (0, 1, 5, 101), (0, 1, None, -101),
    *[(0, 1, value, 10) for value in NO_INTEGERS if value is not None],
    *[(0, 1, 5, value) for value in NO_INTEGERS if value is not None],
)

WRONG_NETS = (
    None, True, 3, "net", (), (3,), (3, (), ()), [3, ()], {3: ()},
    *[(size, ()) for size in (0, 7, -1, 100)],
    *[(size, ()) for size in NO_INTEGERS],
    *[(3, rules) for rules in (None, True, 0, "", [], [(0, 1, 5, 10)], {})],
    (3, ((0, 1, 5, 10),) * 13),
    # A single event has no rules, and a smaller net not the same ones.
    (1, ((0, 1, 5, 10),)), (1, ((0, 0, 5, 10),)), (2, NET[1]),
    *[(3, (rule,)) for rule in WRONG_RULES],
    *[(3, ((0, 1, 5, 10),) * 11 + (rule,)) for rule in WRONG_RULES],
    (3, ((0, 1, 5), (0, 1, 5, 10))),
)

# A round of each number of edges that the least one can have, other orders of the events, and other rules beside it.
LOST_NETS = (
    (2, ((0, 1, 3, None), (1, 0, -2, None))),
    (2, ((0, 1, 10, 5),)),
    (2, ((1, 0, None, -1), (0, 1, -100, 0))),
    (3, NET[1] + ((2, 0, 0, None),)),
    (3, NET[1] + ((1, 2, None, -1),)),
    ring(3, -1), ring(4, -1), ring(5, -1), ring(6, -1), ring(6, -100),
    (6, ((4, 5, 0, None), (5, 4, 1, None))),
)

# For a net of three events.
WRONG_TIMES = (
    None, True, 0, "000", (), (0,), (0, 0), (0, 0, 0, 0), [0, 0, 0],
    *[(0, 0, time) for time in (-1001, 1001, *NO_INTEGERS)],
    *[(time, 0, 0) for time in (-1001, 1001, *NO_INTEGERS)],
)

WRONG_EVENTS = (-1, 3, *NO_INTEGERS)

# For the net NET.
WRONG_WALKS = (
    None, True, 0, "walk", [], [(0, "high")], {}, (0, "high"), AnyEqual(),
    # No edges: of another kind, without such a rule, or of a side that is None.
    (None,), (0,), ("high",), ([0, "high"],), ((0,),), ((0, "high", 1),), ((),),
    ((2, "high"),), ((-1, "low"),), ((1, "high"),), ((0, "High"),), ((0, ""),),
    ((0, None),), ((0, 1),), ((0, AnyEqual()),),
    *[((index, "high"),) for index in NO_INTEGERS],
    *[((index, "low"),) for index in NO_INTEGERS],
    # Edges that do not follow one another.
    ((0, "high"), (0, "high")), ((0, "low"), (1, "low")), ((0, "high"), (1, "low")),
    ((0, "low"), (0, "high"), (0, "high")),
    # A wrong edge behind right ones.
    ((0, "high"), (1, "high")), ((1, "low"), (0, "low"), None), ((0, "high"), [0, "low"]),
)

WRONG_ORDERS = (
    None, True, 0, "012", (), (0, 1), (0, 1, 2, 3), (0, 1, 1), (0, 1, 3), (-1, 0, 1), (0, 0, 1, 2), [0, 1, 2],
    *[(0, value, 2) for value in NO_INTEGERS], (False, True, 2),
)

WRONG_CHOICES = (
    None, True, 0, "0", (), [], [0, 1], (1, 0), (0, 2, 1), (0, 0), (1, 1, 2), (3,), (0, 3), (-1, 0), (0, 1, 2, 3),
    *[(value,) for value in NO_INTEGERS], *[(value, 2) for value in NO_INTEGERS],
)


def wrong_news(size):
    """Values that are no piece of news of events from 0 to the size less 1."""
    return (
        None, True, 0, "07", (), (0,), (0, 7, 7), [0, 7], {0: 7}, ((0, 7),),
        *[(event, 7) for event in (-1, size, *NO_INTEGERS)],
        *[(0, time) for time in (-501, 501, *NO_INTEGERS)],
    )


def wrong_rows(size):
    """Values that are no row of news of these events."""
    return (
        None, True, 0, "", "07", [], [(0, 7)], {}, (0, 7), AnyEqual(),
        *[(news,) for news in wrong_news(size)],
        *[((1, 20), news) for news in wrong_news(size)],
        ((0, 7),) * 9, ((0, 7), (1, 12)) * 4 + ((2, 12),),
    )


# For a net of three events.
WRONG_NEWS = wrong_news(3)
WRONG_ROWS = wrong_rows(3)

# As joint news, events may not be told two times either.
WRONG_JOINT_NEWS = WRONG_ROWS + (
    ((0, 7), (0, 7)), ((0, 7), (0, 8)), ((0, 7), (1, 12), (0, 7)), ((0, 7),) * 7, ((0, 7), (1, 12)) * 3,
)

# Without a net there are six events.
WRONG_FREE_ROWS = wrong_rows(6)

WRONG_STEPS = (
    None, True, 0, "raise", (), ("raise", 0), ("raise", 0, 7, 7), ["raise", 0, 7], (0, 7), ("raise", (0, 7)),
    *[(word, 0, 7) for word in ("", "Raise", "LOWER", "low", "high", "tell", b"raise", ("raise",), *NO_INTEGERS)],
    *[("raise", event, 7) for event in (-1, 6, *NO_INTEGERS)],
    *[("lower", event, 7) for event in (-1, 6, *NO_INTEGERS)],
    *[("raise", 0, time) for time in (-501, 501, *NO_INTEGERS)],
    *[("lower", 0, time) for time in (-501, 501, *NO_INTEGERS)],
)

WRONG_STEP_TUPLES = (
    None, True, 0, "", "raise", [], [("raise", 0, 7)], {}, ("raise", 0, 7), AnyEqual(),
    *[(step,) for step in WRONG_STEPS],
    *[(("lower", 1, 3), step) for step in WRONG_STEPS],
    (("raise", 0, 7),) * 17, tuple(("lower", k % 6, k) for k in range(17)),
)

WRONG_SIDES = (
    True, False, 0, "", (), (0,), (0, 3, 3), [0, 3], {0: 3}, ((0, 3),), AnyEqual(),
    *[(event, 3) for event in (-1, 6, *NO_INTEGERS)],
    *[(0, bound) for bound in (-2001, 2001, *NO_INTEGERS)],
)

WRONG_PLACES = (
    None, True, 0, "", "abc", (), (None,), (None, None), (None, None, 0, 0), [None, None, 0], (0, 3), {}, AnyEqual(),
    ((0, 3), (1, 3)), [(0, 3), (1, 3), 0], ((0, 3), (1, 3), 0, 0),
    *[(side, None, 0) for side in WRONG_SIDES], *[(None, side, 0) for side in WRONG_SIDES],
    *[(side, (1, 3), 0) for side in WRONG_SIDES], *[((1, 3), side, 0) for side in WRONG_SIDES],
    *[(None, None, start) for start in (-10001, 10001, *NO_INTEGERS)],
    *[((0, 3), (1, 3), start) for start in (-10001, 10001, *NO_INTEGERS)],
    ((0, 3), (0, -4), 0), ((5, -1), (5, 0), 0), ((5, -2000), (5, 1999), 0),
)

WRONG_SETS = tuple(value for value in WRONG_CHOICES if value != ())

WRONG_TEXTS = (
    None, True, 0, 3.5, b"3:", b"", ["3:"], ("3:",), (), [], {}, AnyEqual(), "3:\n", "\n", "a = 5\n", "xy\n", " " * 601,
    "a" * 601, "3:" + " " * 600, "a = 5" + "\n" * 600,
)

WRONG_KINDS = (None, "", "Net", "ROW", "times", "net ", "n", b"net", ("net",), ["net"], {}, AnyEqual(), *NO_INTEGERS)

# For a net of three events.
WRONG_COMMANDS = (
    None, True, 0, "shorten", "tell", (), {}, AnyEqual(),
    # The word, and the number and kind of items.
    ("Shorten",), ("",), (b"shorten",), ("undo",), (None,), (AnyEqual(),), ["shorten"], ("shorten", ()),
    ("shorten", None), ("shorten", (0, 7)), (("shorten",),), ("tell",), ("join",), ("tell", (0, 7), (1, 7)),
    ("tell", 0, 7), ("join", (), ()), ["tell", (0, 7)], ["join", ()], ("Tell", (0, 7)), ("", ()), (None, (0, 7)),
    (AnyEqual(), (0, 7)), ((0, 7), "tell"), ("raise", 0, 7), ("lower", (0, 7)), (b"tell", (0, 7)), (0, 7),
    # The news of the one as those of the other.
    ("tell", ((0, 7),)), ("join", (0, 7)),
    *[("tell", news) for news in WRONG_NEWS], *[("join", row) for row in WRONG_JOINT_NEWS],
)

WRONG_JOURNALS = (
    None, True, 0, "", "shorten", [], [("shorten",)], {}, AnyEqual(), ("shorten",), ("tell", (0, 7)),
    (("shorten",),) * 21, (("tell", (0, 7)),) * 21, (("join", ()),) * 22,
    *[(command,) for command in WRONG_COMMANDS],
    *[(command, ("shorten",), ("shorten",)) for command in WRONG_COMMANDS],
    *[(("tell", (0, 7)), command, ("shorten",)) for command in WRONG_COMMANDS],
    *[(("tell", (0, 7)), ("shorten",), command) for command in WRONG_COMMANDS],
)
