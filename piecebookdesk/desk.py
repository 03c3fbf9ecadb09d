"""The desk: the definitions, the states for undo, and what each command does with them."""

from piecebookdesk.definitions import (
    definition_text,
    entry_order,
    lines_of,
    make_part,
    make_theme,
    names_used,
    reaches,
    users_of,
)
from piecebookdesk.events import event_text
from piecebookdesk.forms import read_command
from piecebookdesk.lines import find_event, first_difference, line_length

MOST_NAMES = 12
MOST_UNDONE = 20


class Desk:
    """The state. Its dicts are never changed but replaced, so that the states for undo stay as they were."""

    def __init__(self):
        self.definitions = {}
        self.lines = {}
        self.past = []

    def move_on(self, definitions, lines):
        past = self.past + [(self.definitions, self.lines)]
        self.past = past[-MOST_UNDONE:]
        self.definitions = definitions
        self.lines = lines

    def move_back(self):
        state = self.past[-1]
        self.past = self.past[:-1]
        self.definitions = state[0]
        self.lines = state[1]


def answer_theme(desk, command):
    return define(desk, command[1], make_theme(command[2]))


def answer_part(desk, command):
    part = make_part(command[2])
    for name in names_used(part):
        if name not in desk.definitions:
            return "no name"
    if reaches(desk.definitions, names_used(part), command[1]):
        return "no ring"
    return define(desk, command[1], part)


def define(desk, name, definition):
    if name not in desk.definitions and len(desk.definitions) >= MOST_NAMES:
        return "no many"
    definitions = dict(desk.definitions)
    definitions[name] = definition
    lines = lines_of(definitions)
    if lines is None:
        return "no whole"
    desk.move_on(definitions, lines)
    size = size_text(lines[name])
    return f"ok {size}"


def answer_drop(desk, command):
    if command[1] not in desk.definitions:
        return "no name"
    if users_of(desk.definitions, command[1]):
        return "no used"
    definitions = dict(desk.definitions)
    definitions.pop(command[1])
    lines = dict(desk.lines)
    lines.pop(command[1])
    desk.move_on(definitions, lines)
    return "ok"


def answer_undo(desk, command):
    if not desk.past:
        return "no undo"
    desk.move_back()
    return "ok"


def answer_show(desk, command):
    if command[1] not in desk.definitions:
        return "no name"
    return counted_text([event_text(event) for event in desk.lines[command[1]]])


def answer_long(desk, command):
    if command[1] not in desk.definitions:
        return "no name"
    return size_text(desk.lines[command[1]])


def answer_at(desk, command):
    if command[1] not in desk.definitions:
        return "no name"
    line = desk.lines[command[1]]
    found = find_event(line, command[2])
    if found is None:
        return "no time"
    return " ".join([str(found[0]), str(found[1]), event_text(line[found[0]])])


def answer_same(desk, command):
    if command[1] not in desk.definitions or command[2] not in desk.definitions:
        return "no name"
    index = first_difference(desk.lines[command[1]], desk.lines[command[2]])
    return "yes" if index is None else f"no same {index}"


def answer_uses(desk, command):
    if command[1] not in desk.definitions:
        return "no name"
    return counted_text(names_used(desk.definitions[command[1]]))


def answer_users(desk, command):
    if command[1] not in desk.definitions:
        return "no name"
    return counted_text(users_of(desk.definitions, command[1]))


def answer_list(desk, command):
    return listing_text(desk.definitions, list(desk.definitions))


def answer_dump(desk, command):
    return listing_text(desk.definitions, entry_order(desk.definitions))


def size_text(line):
    count = len(line)
    length = line_length(line)
    return f"{count} {length}"


def counted_text(words):
    return " ".join([str(len(words))] + words)


def listing_text(definitions, names):
    return "\n".join([str(len(names))] + [definition_text(name, definitions[name]) for name in names])


ANSWERS = {
    "theme": answer_theme,
    "part": answer_part,
    "drop": answer_drop,
    "undo": answer_undo,
    "show": answer_show,
    "long": answer_long,
    "at": answer_at,
    "same": answer_same,
    "uses": answer_uses,
    "users": answer_users,
    "list": answer_list,
    "dump": answer_dump,
}


def answer_text(desk, text):
    """Executes the command that the text writes, and gives the text of the answer."""
    command = read_command(text)
    if command is None:
        return "no form"
    return ANSWERS[command[0]](desk, command)
