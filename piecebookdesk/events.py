"""Names, numbers and events, and how they are written.

An event is a tuple of its step, its alteration and its length; a rest has the step None.
"""

STEP_LETTERS = "cdefgab"
ALTERATION_MARKS = ("bb", "b", "", "#", "x")
WIDEST_ALTERATION = 2
HIGHEST_STEP = 69
LONGEST_EVENT = 1024
RESERVED_WORDS = ("up", "down", "over", "back", "long", "short", "times", "r")
MOST_LETTERS = 8
MOST_DIGITS = 4


def is_name(word):
    if not word.isalpha() or not word.islower():
        return False
    return len(word) <= MOST_LETTERS and word not in RESERVED_WORDS


def read_number(word, low, high):
    """The number that the word writes, or None if it writes none from low to high."""
    if not word.isdigit() or len(word) > MOST_DIGITS:
        return None
    if word[0] == "0" and len(word) > 1:
        return None
    number = int(word)
    return number if low <= number <= high else None


def read_event(word):
    """The event that the word writes, or None."""
    pieces = word.split(":")
    if len(pieces) != 2:
        return None
    length = read_number(pieces[1], 1, LONGEST_EVENT)
    if length is None:
        return None
    if pieces[0] == "r":
        return (None, 0, length)
    return read_note(pieces[0], length)


def read_note(pitch, length):
    if len(pitch) < 2 or not pitch[-1].isdigit():
        return None
    letter = STEP_LETTERS.find(pitch[0])
    mark = pitch[1:-1]
    if letter < 0 or mark not in ALTERATION_MARKS:
        return None
    step = int(pitch[-1]) * len(STEP_LETTERS) + letter
    return (step, ALTERATION_MARKS.index(mark) - WIDEST_ALTERATION, length)


def is_rest(event):
    return event[0] is None


def is_in_range(event):
    if event[2] < 1 or event[2] > LONGEST_EVENT:
        return False
    if is_rest(event):
        return True
    return 0 <= event[0] <= HIGHEST_STEP and abs(event[1]) <= WIDEST_ALTERATION


def event_text(event):
    length = event[2]
    if is_rest(event):
        return f"r:{length}"
    letter = STEP_LETTERS[event[0] % len(STEP_LETTERS)]
    octave = event[0] // len(STEP_LETTERS)
    mark = ALTERATION_MARKS[event[1] + WIDEST_ALTERATION]
    return f"{letter}{mark}{octave}:{length}"
