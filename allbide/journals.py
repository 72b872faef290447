"""Journals of live nets, and the judge of their records."""

from allbide.alike import are_alike
from allbide.errors import BadValue
from allbide.heights import check_kept_times
from allbide.live import MOST_COMMANDS, SHORTEN, Live, are_commands, are_too_many, is_command, joint_news_of
from allbide.nets import check_net
from allbide.news import is_row
from allbide.repair import is_repair


def replayed(net, times, journal):
    """Return a new live net that has carried out the commands of the journal."""
    live = Live(net, times)
    if not are_commands(journal, net[0]):
        raise BadValue("journal")
    for command in journal:
        live.act(command)
    return live


def is_shortened(net, row, value):
    """Tell whether the value is a row of news of the net that is alike to the row, and not longer."""
    return is_row(value, net[0]) and len(value) <= len(row) and are_alike(row, value)


def behind_told(net, times, row, news, value):
    """Return the times and the row behind the news, if the value is a right repair for them, or None."""
    # News that are apart have no accepted repair, so that it need not be asked whether they fit.
    if are_too_many(row, news) or not is_repair(net, times, news, value):
        return None
    return value[0], row + news


def behind_record(net, times, row, record):
    """Return the times and the row behind the record, or None if it does not hold."""
    if not isinstance(record, tuple) or len(record) != 2 or not is_command(record[0], net[0]):
        return None
    command, value = record
    if command[0] == SHORTEN:
        return (times, value) if is_shortened(net, row, value) else None
    return behind_told(net, times, row, joint_news_of(command), value)


def are_right(net, times, records):
    """Tell whether the records are right for the net and the times."""
    check_net(net)
    check_kept_times(net, times)
    if not isinstance(records, tuple) or len(records) > MOST_COMMANDS:
        return False
    state = (times, ())
    for record in records:
        state = behind_record(net, state[0], state[1], record)
        if state is None:
            return False
    return True
