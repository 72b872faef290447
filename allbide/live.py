"""Live nets: times that commands change, with a journal of the commands."""

from allbide.alike import shortest
from allbide.errors import BadValue, NotPossible, TooLarge
from allbide.heights import check_kept_times, first_barrier, moved, room_beside
from allbide.nets import check_event, check_net
from allbide.news import MOST_NEWS, are_joint_news, is_news
from allbide.paths import least_walks, lengths_of
from allbide.repair import repair

TELL = "tell"
JOIN = "join"
SHORTEN = "shorten"
MOST_COMMANDS = 20


def is_command(value, size):
    """Tell whether the value is a command with news of a net of this size."""
    if not isinstance(value, tuple) or len(value) not in (1, 2) or not isinstance(value[0], str):
        return False
    if len(value) == 1:
        return value[0] == SHORTEN
    word, news = value
    if word == TELL:
        return is_news(news, size)
    return word == JOIN and are_joint_news(news, size)


def are_commands(value, size):
    """Tell whether the value is a tuple of so many commands as a journal can have."""
    if not isinstance(value, tuple) or len(value) > MOST_COMMANDS:
        return False
    return all([is_command(command, size) for command in value])


def joint_news_of(command):
    """Return the joint news that the command tells: none if it shortens."""
    if command[0] == SHORTEN:
        return ()
    return (command[1],) if command[0] == TELL else command[1]


def are_too_many(row, news):
    """Tell whether the news cannot be put behind the row."""
    return len(row) + len(news) > MOST_NEWS


class Live:
    """A live net."""

    def __init__(self, net, times):
        check_net(net)
        check_kept_times(net, times)
        self._net = net
        self._walks = least_walks(net)
        self._bounds = lengths_of(self._walks)
        self._commands = []
        # The times and the row ahead of the first command, and behind each one.
        self._states = [(times, ())]

    def act(self, command):
        """Carry out the command, and return the number of commands in the journal."""
        if not is_command(command, self._net[0]):
            raise BadValue("command")
        news = joint_news_of(command)
        times, row = self._states[-1]
        if are_too_many(row, news):
            raise NotPossible("many")
        if first_barrier(self._walks, news) is not None:
            raise NotPossible("apart")
        if len(self._commands) == MOST_COMMANDS:
            raise TooLarge("commands")
        # Shortening tells no news, so that the times stay as they are.
        if command[0] == SHORTEN:
            row = shortest(row)
        self._commands.append(command)
        self._states.append((moved(self._bounds, times, news), row + news))
        return len(self._commands)

    def undo(self):
        """Undo the last command, and return it, or None if the journal is empty."""
        if not self._commands:
            return None
        self._states.pop()
        return self._commands.pop()

    def net(self):
        """Return the net."""
        return self._net

    def times(self):
        """Return the present times."""
        return self._states[-1][0]

    def row(self):
        """Return the row of news."""
        return self._states[-1][1]

    def journal(self):
        """Return the tuple of the commands in the journal."""
        return tuple(self._commands)

    def moves(self, news):
        """Return the moves of a repair for the piece of news alone, without telling it."""
        if not is_news(news, self._net[0]):
            raise BadValue("news")
        return repair(self._net, self.times(), (news,))[1]

    def room(self, event):
        """Return the least and the greatest time to which the event can be told without moving another one."""
        check_event(self._net, "event", event)
        others = [(other, time) for other, time in enumerate(self.times()) if other != event]
        return room_beside(self._bounds, event, others)

    def records(self):
        """Return the tuple of the records: each command with its repair, or with the row behind it."""
        found = []
        for k, command in enumerate(self._commands):
            if command[0] == SHORTEN:
                found.append((command, self._states[k + 1][1]))
            else:
                found.append((command, repair(self._net, self._states[k][0], joint_news_of(command))))
        return tuple(found)

    def twin(self):
        """Return a live net with the same net, first times and journal."""
        other = Live(self._net, self._states[0][0])
        other._commands = list(self._commands)
        other._states = list(self._states)
        return other
