"""Writing texts of nets, rows of news and times."""

from allbide.nets import MOST_EVENTS, check_net, check_times
from allbide.news import check_row
from allbide.scanning import EVENT_LETTERS


def side_text(side):
    """Return the text of a side of a rule: nothing for None."""
    return "" if side is None else str(side)


def rule_text(rule):
    """Return the text of a rule."""
    start, end, low, high = rule
    return f"{EVENT_LETTERS[end]} - {EVENT_LETTERS[start]} in {side_text(low)}..{side_text(high)}"


def net_text(net):
    """Return the text of a net."""
    check_net(net)
    size, rules = net
    text = f"{size}:"
    if rules:
        text += " " + "; ".join([rule_text(rule) for rule in rules])
    return text


def news_text(pieces):
    """Return the text of pieces of news."""
    return ", ".join([f"{EVENT_LETTERS[event]} = {time}" for event, time in pieces])


def row_text(row):
    """Return the text of a row of news."""
    check_row("row", row, MOST_EVENTS)
    return news_text(row)


def times_text(net, times):
    """Return the text of times."""
    check_net(net)
    check_times(net, times)
    return news_text(list(enumerate(times)))
