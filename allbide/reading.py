"""Reading texts of nets, rows of news and times."""

from allbide.errors import BadValue, TextError
from allbide.nets import GREATEST_SIDE, GREATEST_TIME, MOST_EVENTS, MOST_RULES, check_net
from allbide.news import GREATEST_NEWS_TIME, MOST_NEWS
from allbide.scanning import END, EVENT, EVENT_LETTERS, NUMBER, POINTS, SIGN, check_text, scan

NET = "net"
ROW = "row"

# For each place of the two grammars what can come there, in the order in which it is told, with the
# place behind it. The place at the beginning of a text has the name of its kind.
COURSES = {
    "net": (("a number", "size"),),
    "size": (('":"', "colon"),),
    "colon": (("an event", "rule end"), ("the end", "done")),
    "rule end": (('"-"', "dash"),),
    "dash": (("an event", "rule start"),),
    "rule start": (("in", "sides"),),
    "sides": (("a number", "low"), ('"-"', "low below 0"), ('".."', "no low")),
    "low below 0": (("a number", "low"),),
    "low": (('".."', "behind low"),),
    "behind low": (("a number", "high"), ('";"', "semicolon"), ('"-"', "high below 0"), ("the end", "done")),
    "no low": (("a number", "high"), ('"-"', "high below 0")),
    "high below 0": (("a number", "high"),),
    "high": (('";"', "semicolon"), ("the end", "done")),
    "semicolon": (("an event", "rule end"),),
    "row": (("an event", "told"), ("the end", "done")),
    "told": (('"="', "equals"),),
    "equals": (("a number", "time"), ('"-"', "time below 0")),
    "time below 0": (("a number", "time"),),
    "time": (('","', "comma"), ("the end", "done")),
    "comma": (("an event", "told"),),
}


def words_for(token):
    """Return the words by which it is told that the token can come."""
    kind, characters, _ = token
    if kind == EVENT:
        return "an event"
    if kind == NUMBER:
        return "a number"
    if kind == SIGN:
        return f'"{characters}"'
    return "the end" if kind == END else characters


def listed(words):
    """Return the words with commas between them, and `or` before the last one."""
    if len(words) == 1:
        return words[0]
    return ", ".join(words[:-1]) + " or " + words[-1]


def possible_at(place):
    """Return the list of what can come at the place of a grammar."""
    return [words for words, _ in COURSES[place]]


def place_behind(place, token):
    """Return the place of the grammar behind the token, or raise TextError if it cannot come."""
    for words, behind in COURSES[place]:
        if words == words_for(token):
            return behind
    raise TextError(token[2], "expected " + listed(possible_at(place)))


def place_behind_all(tokens, kind):
    """Return the place behind all of these tokens, from the beginning of a text of this kind on."""
    place = kind
    for token in tokens:
        place = place_behind(place, token)
    return place


def next_tokens(text, kind):
    """Return the list of what can come behind the tokens of the text, the beginning of a text of this kind."""
    check_text(text)
    if not isinstance(kind, str) or kind not in (NET, ROW):
        raise BadValue("kind")
    return possible_at(place_behind_all(scan(text)[:-1], kind))


def tokens_of(text, kind):
    """Return the tokens of the text, which follow the grammar of this kind, or raise TextError."""
    tokens = scan(text)
    place_behind_all(tokens, kind)
    return tokens


def parts_between(tokens, sign):
    """Return the list of the lists of tokens between signs of this kind; without tokens, there is one empty list."""
    parts = []
    part = []
    for token in tokens:
        if token[1] == sign:
            parts.append(part)
            part = []
        else:
            part.append(token)
    return parts + [part]


def event_in(size, token):
    """Return the event that the token tells, or raise TextError if the net of this size has none."""
    event = EVENT_LETTERS.index(token[1])
    if event >= size:
        raise TextError(token[2], "there is no such event")
    return event


def integer_in(tokens, greatest, problem):
    """Return the integer that the tokens tell, or raise TextError with the problem if it is beyond the greatest."""
    _, digits, column = tokens[-1]
    if int(digits) > greatest:
        raise TextError(column, problem)
    return int(digits) if len(tokens) == 1 else -int(digits)


def side_in(tokens):
    """Return the side of a rule that the tokens tell: None if there are none."""
    if not tokens:
        return None
    return integer_in(tokens, GREATEST_SIDE, "a side is from -100 to 100")


def size_in(token):
    """Return the size of a net that the token tells, or raise TextError."""
    size = int(token[1])
    if size < 1 or size > MOST_EVENTS:
        raise TextError(token[2], "a size is from 1 to 6")
    return size


def rule_in(size, tokens):
    """Return the rule that the tokens tell, or raise TextError."""
    end = event_in(size, tokens[0])
    start = event_in(size, tokens[2])
    if start == end:
        raise TextError(tokens[2][2], "a rule has two different events")
    low, high = [side_in(part) for part in parts_between(tokens[4:], POINTS)]
    return start, end, low, high


def read_net(text):
    """Return the net that the text tells."""
    tokens = tokens_of(text, NET)
    size = size_in(tokens[0])
    told = tokens[2:-1]
    rules = []
    for part in parts_between(told, ";") if told else []:
        if len(rules) == MOST_RULES:
            raise TextError(part[0][2], "there are at most 12 rules")
        rules.append(rule_in(size, part))
    return size, tuple(rules)


def pieces_of(tokens):
    """Return the list of the lists of tokens of the pieces of news, from all tokens of their text."""
    return parts_between(tokens[:-1], ",") if len(tokens) > 1 else []


def read_row(net, text):
    """Return the row of news of the net that the text tells."""
    check_net(net)
    row = []
    for part in pieces_of(tokens_of(text, ROW)):
        if len(row) == MOST_NEWS:
            raise TextError(part[0][2], "there are at most 8 pieces of news")
        event = event_in(net[0], part[0])
        row.append((event, integer_in(part[2:], GREATEST_NEWS_TIME, "a time is from -500 to 500")))
    return tuple(row)


def read_times(net, text):
    """Return the times for the net that the text tells."""
    check_net(net)
    tokens = tokens_of(text, ROW)
    times = {}
    for part in pieces_of(tokens):
        event = event_in(net[0], part[0])
        if event in times:
            raise TextError(part[0][2], "this event stands already")
        times[event] = integer_in(part[2:], GREATEST_TIME, "a time is from -1000 to 1000")
    if len(times) < net[0]:
        raise TextError(tokens[-1][2], "an event is missing")
    return tuple([times[event] for event in range(net[0])])
