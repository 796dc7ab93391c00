"""Puts lines of calls together and takes their answers apart, for the tests."""

from dayagreement.agreement import answers


def opening(text, day=0):
    data = text.encode() if isinstance(text, str) else bytes(text)
    return [0, 1, day, 1, len(data)] + list(data)


def day(*numbers):
    return [1, len(numbers)] + list(numbers) + [0]


def waits():
    return [2, 0, 0]


def choose(number, which):
    return [3, 2, number, which, 0]


def begin(number):
    return [4, 1, number, 0]


def left():
    return [5, 0, 0]


def paid():
    return [6, 0, 0]


def undo():
    return [7, 0, 0]


def text_of(answer):
    """The text that left has answered."""
    assert answer[0] == len(answer) - 1, answer
    return bytes(answer[1:]).decode()


def text_told(text):
    """What left answers where this is left."""
    return [len(text)] + list(text.encode())


def told(*calls):
    """The answer to each of the calls, handed in as one line."""
    line = [number for call in calls for number in call]
    given = answers(line)
    taken = []
    place = 0
    while place < len(given):
        behind = place + 1 + given[place]
        taken.append(given[place + 1:behind])
        place = behind
    return taken


def last(*calls):
    """The answer to the last of the calls."""
    return told(*calls)[-1]
