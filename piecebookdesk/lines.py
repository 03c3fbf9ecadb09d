"""Lines: lists of events that follow one another. No function here changes the line it is given."""

from piecebookdesk.events import is_in_range, is_rest

MOST_EVENTS = 200


def is_valid(line):
    return len(line) <= MOST_EVENTS and all([is_in_range(event) for event in line])


def line_length(line):
    return sum([event[2] for event in line])


def moved(line, steps):
    return [event if is_rest(event) else (event[0] + steps, event[1], event[2]) for event in line]


def inverted(line):
    notes = [event for event in line if not is_rest(event)]
    if not notes:
        return line
    step = 2 * notes[0][0]
    alteration = 2 * notes[0][1]
    return [event if is_rest(event) else (step - event[0], alteration - event[1], event[2]) for event in line]


def backward(line):
    return list(reversed(line))


def stretched(line, factor):
    return [(event[0], event[1], event[2] * factor) for event in line]


def shortened(line, factor):
    """The line with every length divided, or None if a division is not exact."""
    if any([event[2] % factor != 0 for event in line]):
        return None
    return [(event[0], event[1], event[2] // factor) for event in line]


def repeated(line, times):
    return line * times


def find_event(line, time):
    """The index of the event that sounds at the time and when it began, or None if the line has ended."""
    began = 0
    for index, event in enumerate(line):
        if time < began + event[2]:
            return (index, began)
        began = began + event[2]
    return None


def first_difference(line, other):
    """The first index at which the lines differ or one of them has ended, or None if they are equal."""
    if line == other:
        return None
    shared = min(len(line), len(other))
    for index in range(shared):
        if line[index] != other[index]:
            return index
    return shared
