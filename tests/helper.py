"""What the tests share: commands as texts in, answers as texts (or -1) out."""

from piecebookdesk.book import answers


def request(commands):
    """The list of calls for commands, each a text or a list of whole numbers."""
    calls = []
    for command in commands:
        numbers = [ord(sign) for sign in command] if isinstance(command, str) else list(command)
        calls += [1, len(numbers)] + numbers + [0]
    return calls


def split_answers(numbers):
    """The answer to each call, as a text or -1, with its counts checked."""
    results = []
    place = 0
    while place < len(numbers):
        count = numbers[place]
        answer = numbers[place + 1:place + 1 + count]
        assert len(answer) == count, "an answer is shorter than its count"
        if answer == [-1]:
            results.append(-1)
        else:
            assert answer[0] == count - 1, "the length told is not the answer's"
            results.append("".join(chr(byte) for byte in answer[1:]))
        place += 1 + count
    return results


def ask(commands):
    """The answers to all commands of one request."""
    results = split_answers(answers(request(commands)))
    assert len(results) == len(commands), "not one answer for each command"
    return results


def last(*commands):
    """The answer to the last command of one request."""
    return ask(commands)[-1]
