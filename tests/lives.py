"""Live nets that several test files use, and all that they tell."""

from allbide.errors import NotPossible
from allbide.live import Live
from tests.samples import Numbers, kept_pairs, refused

TIMES = (0, 5, 30)
SHORTEN = ("shorten",)


def state_of(live):
    """All that a live net tells."""
    return live.net(), live.times(), live.row(), live.journal(), live.records()


def drawn_command(net, times, numbers):
    """A command with news not far from the times; it need not be possible."""
    kind = numbers.below(5)
    if kind == 0:
        return SHORTEN
    if kind < 3:
        event = numbers.below(net[0])
        return "tell", (event, times[event] + numbers.between(-6, 6))
    events, row = list(range(net[0])), []
    for _ in range(numbers.below(min(net[0], 4) + 1)):
        event = events.pop(numbers.below(len(events)))
        row.append((event, times[event] + numbers.between(-1, 1)))
    return "join", tuple(row)


def drawn_lives(seed, nets, commands=14):
    """Nets with times that keep them, and the possible ones of some commands."""
    numbers = Numbers(seed)
    found = []
    for net, times in kept_pairs(seed, nets):
        live = Live(net, times)
        for _ in range(commands):
            command = drawn_command(net, live.times(), numbers)
            if refused(live.act, command) not in (None, (NotPossible, "many"), (NotPossible, "apart")):
                raise AssertionError(command)
        found.append((net, times, live.journal()))
    return found
