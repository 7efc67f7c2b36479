"""Lines of calls as the tests write them, and their answers, one list a call."""

from growntiles.letters import answers

TOP = 4294967295


def rule(k, m, letters):
    return [0, k, m, len(letters)] + list(letters)


def paint(numbers):
    return [1, len(numbers)] + list(numbers)


def at(a, n, x, y):
    return [2, a, n, x, y]


def counts(a, n):
    return [3, a, n]


def twos(a):
    return [4, a]


def ever(a, w, h, letters):
    return [5, a, w, h, len(letters)] + list(letters)


def first(a, w, h, letters):
    return [6, a, w, h, len(letters)] + list(letters)


def mixed():
    return [7]


def share(a):
    return [8, a]


def classes():
    return [9]


def window(a, n, x, y):
    return [10, a, n, x, y]


def line_of(calls):
    line = []
    for call in calls:
        line.extend(call)
    return line


def split(answered):
    parts = []
    place = 0
    while place < len(answered):
        behind = place + 1 + answered[place]
        assert behind <= len(answered), "the last answer is cut off"
        parts.append(answered[place + 1:behind])
        place = behind
    return parts


def ask(*calls):
    """What each of these calls is answered, all in one line."""
    parts = split(answers(line_of(calls)))
    assert len(parts) == len(calls), "not one answer a call"
    return parts


def ask_last(*calls):
    return ask(*calls)[-1]
