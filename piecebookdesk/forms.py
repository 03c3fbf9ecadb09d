"""The forms of the commands."""

from piecebookdesk.events import is_name, read_event, read_number
from piecebookdesk.expressions import read_expression

MOST_THEME_EVENTS = 32
LATEST_TIME = 9999
WORDS_BEHIND = {
    "drop": ("name",),
    "undo": (),
    "show": ("name",),
    "long": ("name",),
    "at": ("name", "time"),
    "same": ("name", "name"),
    "uses": ("name",),
    "users": ("name",),
    "list": (),
    "dump": (),
}


def read_command(text):
    """A list of the command's first word and what it is about, or None if it is malformed."""
    words = text.split(" ")
    if words[0] == "theme" or words[0] == "part":
        return read_change(words)
    if words[0] not in WORDS_BEHIND or len(words) != len(WORDS_BEHIND[words[0]]) + 1:
        return None
    command = [words[0]]
    for kind, word in zip(WORDS_BEHIND[words[0]], words[1:]):
        command.append(read_argument(kind, word))
    return None if None in command else command


def read_argument(kind, word):
    if kind == "time":
        return read_number(word, 0, LATEST_TIME)
    return word if is_name(word) else None


def read_change(words):
    if len(words) < 3 or not is_name(words[1]):
        return None
    body = read_events(words[2:]) if words[0] == "theme" else read_expression(words[2:])
    return None if body is None else [words[0], words[1], body]


def read_events(words):
    if len(words) > MOST_THEME_EVENTS:
        return None
    events = [read_event(word) for word in words]
    return None if None in events else events
