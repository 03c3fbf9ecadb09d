"""Definitions of names as themes and parts, and how they depend on one another.

A definition is a tuple of its kind, "theme" or "part", its events or steps, and the names that it uses.
Definitions are a dict from names to these, in the order in which the names were added.
"""

from piecebookdesk.events import event_text
from piecebookdesk.expressions import expression_text, expression_value, names_in


def make_theme(events):
    return ("theme", events, [])


def make_part(steps):
    return ("part", steps, names_in(steps))


def names_used(definition):
    return definition[2]


def users_of(definitions, name):
    return [user for user in definitions if name in names_used(definitions[user])]


def reaches(definitions, starts, goal):
    """Whether the goal is one of the starts or is used by one of them, directly or indirectly."""
    found = {}
    due = list(starts)
    while due:
        name = due.pop()
        if name == goal:
            return True
        if name not in found:
            found[name] = True
            due.extend(names_used(definitions[name]))
    return False


def entry_order(definitions):
    """The names in an order in which they can be entered again."""
    order = []
    while len(order) < len(definitions):
        order.append(first_ready(definitions, order))
    return order


def first_ready(definitions, done):
    ready = [name for name in definitions if name not in done and is_ready(definitions[name], done)]
    return ready[0]


def is_ready(definition, done):
    return all([name in done for name in names_used(definition)])


def lines_of(definitions):
    """The line of each name, or None if one of them is impossible."""
    lines = {}
    for name in entry_order(definitions):
        line = definition_line(definitions[name], lines)
        if line is None:
            return None
        lines[name] = line
    return lines


def definition_line(definition, lines):
    if definition[0] == "theme":
        return definition[1]
    return expression_value(definition[1], lines)


def definition_text(name, definition):
    kind = definition[0]
    body = body_text(definition)
    return f"{kind} {name} {body}"


def body_text(definition):
    if definition[0] == "theme":
        return " ".join([event_text(event) for event in definition[1]])
    return expression_text(definition[1])
