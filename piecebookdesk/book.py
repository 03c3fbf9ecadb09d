"""The interface: a list of calls in, a list of what is answered out."""

from piecebookdesk.desk import Desk, answer_text

MOST_BYTES = 400
LOWEST_BYTE = 32
HIGHEST_BYTE = 126
COMMAND_SIGNS = " #()+:0123456789abcdefghijklmnopqrstuvwxyz"
# No form has this sign, so that it can stand for every other one that no form has.
OTHER_SIGN = "?"


def answers(calls):
    """For each call of say, in order: how many numbers are answered, then these."""
    desk = Desk()
    result = []
    place = 0
    while place < len(calls):
        start = place + 2
        end = start + calls[place + 1]
        answer = say(desk, calls[start:end])
        result.append(len(answer))
        result.extend(answer)
        # Behind the command stands the 0 of the lists that a call of say does not have.
        place = end + 1
    return result


def say(desk, command):
    if not is_text(command):
        return [-1]
    answer = answer_text(desk, text_of(command))
    return [len(answer)] + [ord(sign) for sign in answer]


def is_text(command):
    return len(command) <= MOST_BYTES and all([LOWEST_BYTE <= byte <= HIGHEST_BYTE for byte in command])


def text_of(command):
    signs = dict([(ord(sign), sign) for sign in COMMAND_SIGNS])
    return "".join([signs.get(byte, OTHER_SIGN) for byte in command])
