"""What the document says, worked out in other ways than the program does, for small numbers."""

from itertools import combinations, product

from tests.samples import holds


def is_right(net, heights):
    """Tell whether all rules of the net hold for the heights."""
    return all(holds(rule, heights) for rule in net[1])


def right_heights(net, least, greatest):
    """All right heights with numbers from the least to the greatest one."""
    return [
        heights for heights in product(range(least, greatest + 1), repeat=net[0]) if is_right(net, heights)
    ]


def distances(net):
    """The tight bounds as lists, by Floyd and Warshall, or None if the net cannot be kept."""
    size, rules = net
    bounds = [[0 if i == j else None for j in range(size)] for i in range(size)]
    for start, end, low, high in rules:
        for i, j, weight in ((start, end, high), (end, start, None if low is None else -low)):
            if weight is not None and (bounds[i][j] is None or weight < bounds[i][j]):
                bounds[i][j] = weight
    for k, i, j in product(range(size), repeat=3):
        if bounds[i][k] is not None and bounds[k][j] is not None:
            through = bounds[i][k] + bounds[k][j]
            if bounds[i][j] is None or through < bounds[i][j]:
                bounds[i][j] = through
    return None if any(bounds[i][i] < 0 for i in range(size)) else bounds


def all_fit(net, row):
    """Tell whether each two pieces of news of the row fit, as point 31 says it."""
    bounds = distances(net)
    return all(
        bounds[e][f] is None or w - v <= bounds[e][f]
        for e, v in row for f, w in row
    )


def told_one(net, heights, news):
    """The heights behind one piece of news, as point 32 says it."""
    bounds = distances(net)
    event, time = news
    found = []
    for c, height in enumerate(heights):
        if bounds[c][event] is not None:
            height = max(height, time - bounds[c][event])
        if bounds[event][c] is not None:
            height = min(height, time + bounds[event][c])
        found.append(height)
    return tuple(found)


def told_all(net, heights, row):
    """The heights behind a row of news, told piece by piece."""
    for news in row:
        heights = told_one(net, heights, news)
    return heights


def some_places(events, bounds, starts):
    """All possible places (point 77) with these events, bounds and starts."""
    sides = [None, *product(events, bounds)]
    return [
        (upper, lower, start) for upper, lower, start in product(sides, sides, starts)
        if upper is None or lower is None or upper[0] != lower[0] or upper[1] + lower[1] >= 0
    ]


def stepped_at(steps, place):
    """The time to which the steps lead at a place, as points 62 and 78 say it."""
    upper, lower, time = place
    for word, event, told in steps:
        if word == "raise" and upper is not None and upper[0] == event:
            time = max(time, told - upper[1])
        if word == "lower" and lower is not None and lower[0] == event:
            time = min(time, told + lower[1])
    return time


def in_steps(row):
    """The steps of a row of news."""
    return [(word, event, time) for event, time in row for word in ("raise", "lower")]


def are_idle(steps, index, by):
    """Tell whether the step with the index is idle by the other one, as point 64 says it."""
    word, event, time = steps[index]
    other_word, other_event, other_time = steps[by]
    if index == by or (word, event) != (other_word, other_event):
        return False
    between = [step for step in steps[by + 1:index] if step[0] != word]
    if word == "raise":
        if by > index:
            return other_time >= time
        return other_time > time and all(e == event and time <= v for _, e, v in between)
    if by > index:
        return other_time <= time
    return other_time < time and all(e == event and v <= time for _, e, v in between)


def remaining_by_words(steps):
    """The remaining steps, as point 66 says it."""
    left = list(steps)
    while True:
        idle = [i for i in range(len(left)) if any(are_idle(left, i, j) for j in range(len(left)))]
        if not idle:
            return tuple(left)
        del left[idle[0]]


def places_by_words(first, second):
    """The told places for two rows of news (point 80), those that are not possible left out."""
    events = sorted({event for event, _ in first + second})
    for a in events:
        yield (a, 0), None, -10000
    for b in events:
        yield None, (b, 0), 10000
    for a, b in product(events, repeat=2):
        gaps = {v - w for e, v in first + second if e == a for f, w in first + second if f == b}
        for s in sorted(gaps | {gap - 1 for gap in gaps}):
            if a != b or s >= 0:
                yield (a, s), (b, 0), -10000
                yield (a, s), (b, 0), 10000


def are_told_apart(first, second):
    """Tell whether two rows of news lead to different times at some told place: whether they are not alike."""
    one, other = in_steps(first), in_steps(second)
    return any(stepped_at(one, place) != stepped_at(other, place) for place in places_by_words(first, second))


def told_jointly(net, heights, row):
    """The heights behind joint news that fit, as point 33 says it."""
    bounds = distances(net)
    found = []
    for c, height in enumerate(heights):
        lows = [v - bounds[c][e] for e, v in row if bounds[c][e] is not None]
        highs = [v + bounds[e][c] for e, v in row if bounds[e][c] is not None]
        found.append(min([max([height, *lows]), *highs]))
    return tuple(found)


def all_sets(size):
    """All sets of events of a net of this size, ascending tuples, those with fewer events first, then in order."""
    return [chosen for many in range(size + 1) for chosen in combinations(range(size), many)]


def leading_sets(net, first, second):
    """All sets of events that lead from the first to the second times, as point 86 says it, the least ones first."""
    return [
        chosen for chosen in all_sets(net[0])
        if told_jointly(net, first, tuple((event, second[event]) for event in chosen)) == second
    ]


def does_carry(net, first, second, e, c):
    """Tell whether the event e carries the event c, as point 87 says it."""
    bounds = distances(net)
    if e == c:
        return False
    if second[c] > first[c]:
        return bounds[c][e] is not None and second[e] - second[c] == bounds[c][e]
    if second[c] < first[c]:
        return bounds[e][c] is not None and second[c] - second[e] == bounds[e][c]
    return False


def sources_by_words(net, first, second):
    """The sources, as point 89 says it."""
    size = net[0]
    carrying = {(e, c) for e in range(size) for c in range(size) if does_carry(net, first, second, e, c)}
    moving = [e for e in range(size) if first[e] != second[e]]
    bundles = {
        tuple(c for c in moving if c == e or ((e, c) in carrying and (c, e) in carrying)) for e in moving
    }
    return sorted(
        bundle for bundle in bundles
        if not any((e, c) in carrying for c in bundle for e in range(size) if e not in bundle)
    )
