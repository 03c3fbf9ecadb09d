"""Expressions: reading them, their values and their texts.

An expression is kept as a list of steps in the order of evaluation, each behind what it works on, so that it
needs no parentheses and loops without recursion can walk it. A step is a tuple of its kind and its value:
a name, a rest with its event, an operation with its number or None, or a "+" that joins the last two lines.
"""

from piecebookdesk.events import event_text, is_name, is_rest, read_event, read_number
from piecebookdesk.lines import backward, inverted, is_valid, moved, repeated, shortened, stretched

DEEPEST_NESTING = 8
NUMBER_RANGES = {"up": (1, 69), "down": (1, 69), "long": (2, 16), "short": (2, 16), "times": (2, 16)}
PLAIN_WORDS = ("(", ")", "+", "over", "back")
ITEM_STARTS = ("(", "name", "rest")


def read_expression(words):
    """The steps of the expression that the words write, or None."""
    tokens = read_tokens(words)
    return None if tokens is None else order_steps(tokens)


def read_tokens(words):
    tokens = []
    place = 0
    while place < len(words):
        token = read_token(words, place)
        if token is None:
            return None
        tokens.append(token)
        place = place + (2 if token[0] in NUMBER_RANGES else 1)
    return tokens


def read_token(words, place):
    word = words[place]
    if word in NUMBER_RANGES:
        return read_numbered(words, place)
    if word in PLAIN_WORDS:
        return (word, None)
    if is_name(word):
        return ("name", word)
    event = read_event(word)
    if event is None or not is_rest(event):
        return None
    return ("rest", event)


def read_numbered(words, place):
    if place + 1 == len(words):
        return None
    word = words[place]
    number = read_number(words[place + 1], NUMBER_RANGES[word][0], NUMBER_RANGES[word][1])
    return None if number is None else (word, number)


def order_steps(tokens):
    """The tokens without parentheses, each "+" behind its two items; None if they are no expression."""
    steps = []
    # One entry for each sum that has begun: whether a "+" of it still waits for the end of its right item.
    waiting = [False]
    item_due = True
    for token in tokens:
        if item_due != (token[0] in ITEM_STARTS):
            return None
        if token[0] == "(":
            waiting.append(False)
        elif token[0] == ")":
            end_item(steps, waiting)
            waiting.pop()
        elif token[0] == "+":
            end_item(steps, waiting)
            waiting[-1] = True
            item_due = True
        else:
            steps.append(token)
            item_due = False
        if not waiting or len(waiting) > DEEPEST_NESTING + 1:
            return None
    if item_due or len(waiting) != 1:
        return None
    end_item(steps, waiting)
    return steps


def end_item(steps, waiting):
    # The operations of the right item come before the "+": it can only follow once the item has ended.
    if waiting[-1]:
        steps.append(("+", None))


def names_in(steps):
    """The names that occur, each once, in the order of their first occurrence."""
    names = []
    for step in steps:
        if step[0] == "name" and step[1] not in names:
            names.append(step[1])
    return names


def expression_value(steps, lines):
    """The line of the expression with the given lines of its names, or None if it is not possible."""
    stack = []
    for step in steps:
        if step[0] == "name":
            line = lines[step[1]]
        elif step[0] == "rest":
            line = [step[1]]
        elif step[0] == "+":
            right = stack.pop()
            line = stack.pop() + right
        else:
            line = operated(step[0], step[1], stack.pop())
        if line is None or not is_valid(line):
            return None
        stack.append(line)
    return stack[0]


def operated(operation, number, line):
    """The line after the operation, or None if a division is not exact."""
    if operation == "up":
        return moved(line, number)
    if operation == "down":
        return moved(line, -number)
    if operation == "over":
        return inverted(line)
    if operation == "back":
        return backward(line)
    if operation == "long":
        return stretched(line, number)
    if operation == "short":
        return shortened(line, number)
    return repeated(line, number)


def expression_text(steps):
    # Each entry is a text and whether it is a sum of several items, which may need parentheses.
    stack = []
    for step in steps:
        if step[0] == "name":
            stack.append((step[1], False))
        elif step[0] == "rest":
            stack.append((event_text(step[1]), False))
        elif step[0] == "+":
            right = as_item(stack.pop())
            left = stack.pop()[0]
            stack.append((f"{left} + {right}", True))
        else:
            item = as_item(stack.pop())
            operation = operation_text(step)
            stack.append((f"{item} {operation}", False))
    return stack[0][0]


def as_item(entry):
    text = entry[0]
    return f"( {text} )" if entry[1] else text


def operation_text(step):
    operation = step[0]
    number = step[1]
    return operation if number is None else f"{operation} {number}"
