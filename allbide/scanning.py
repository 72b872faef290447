"""The tokens of texts of nets, rows of news and times."""

from allbide.errors import BadValue, TextError

LONGEST_TEXT = 600
MOST_DIGITS = 6
EVENT_LETTERS = "abcdef"
LETTERS = "abcdefghijklmnopqrstuvwxyz"
DIGITS = "0123456789"
SHORT_SIGNS = ":;,=-"
POINTS = ".."

EVENT = "event"
WORD = "word"
NUMBER = "number"
SIGN = "sign"
END = "end"


def check_text(text):
    """Raise BadValue("text") if it is not a string of at most 600 characters without newlines."""
    if not isinstance(text, str) or len(text) > LONGEST_TEXT or "\n" in text:
        raise BadValue("text")


def run_from(text, at, characters):
    """Return the longest part of the text that begins at this index and has none but these characters."""
    end = at
    while end < len(text) and text[end] in characters:
        end += 1
    return text[at:end]


def letters_kind(letters, column):
    """Return the kind of a sequence of letters, or raise TextError."""
    if letters == "in":
        return WORD
    if len(letters) == 1 and letters in EVENT_LETTERS:
        return EVENT
    raise TextError(column, "there is no such word")


def token_at(text, at):
    """Return the token that begins at this index of the text, or raise TextError."""
    column = at + 1
    letters = run_from(text, at, LETTERS)
    if letters:
        return letters_kind(letters, column), letters, column
    digits = run_from(text, at, DIGITS)
    if len(digits) > MOST_DIGITS:
        raise TextError(column, "a number has at most 6 digits")
    if digits:
        return NUMBER, digits, column
    if text[at] in SHORT_SIGNS:
        return SIGN, text[at], column
    if text[at:at + 2] == POINTS:
        return SIGN, POINTS, column
    raise TextError(column, "no token begins here")


def scan(text):
    """Return the list of the tokens (kind, characters, column) of the text; the last one is the end."""
    check_text(text)
    tokens = []
    at = 0
    while at < len(text):
        if text[at] == " ":
            at += 1
        else:
            token = token_at(text, at)
            tokens.append(token)
            at += len(token[1])
    tokens.append((END, "", len(text) + 1))
    return tokens
