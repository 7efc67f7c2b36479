"""The document's words done plainly and slowly, with none of the program's own code."""

import functools
import random


def squares_of(k, m, letters):
    """Each letter's square, as rows from the lowest on."""
    squares = {}
    for a in range(1, m + 1):
        own = letters[(a - 1) * k * k:a * k * k]
        squares[a] = [own[row * k:row * k + k] for row in range(k)]
    return squares


def grow(k, squares, picture):
    """A picture is a dict: of each place x, y its letter."""
    return {
        (x * k + column, y * k + row): squares[letter][row][column]
        for (x, y), letter in picture.items()
        for row in range(k)
        for column in range(k)
    }


def pictures(k, m, letters, a, most):
    """The letter a grown 0 to most times."""
    squares = squares_of(k, m, letters)
    shown = [{(0, 0): a}]
    for _ in range(most):
        shown.append(grow(k, squares, shown[-1]))
    return shown


def patches(picture, w, h):
    """Every patch of this size that stands in a picture."""
    found = set()
    for x, y in picture:
        if (x + w - 1, y + h - 1) in picture:
            found.add(tuple(picture[x + i, y + j] for j in range(h) for i in range(w)))
    return found


def place(k, m, letters, a, n, x, y):
    """The letter at x, y, told from the place one growing before on."""
    if n == 0:
        return a
    before = place(k, m, letters, a, n - 1, x // k, y // k)
    return squares_of(k, m, letters)[before][y % k][x % k]


def tally(k, m, letters, a, n):
    """How often each letter stands there, told from the letters of a's own square on."""
    squares = squares_of(k, m, letters)

    @functools.cache
    def of(letter, growings):
        if growings == 0:
            return tuple(int(letter == other) for other in range(1, m + 1))
        parts = [of(inner, growings - 1) for row in squares[letter] for inner in row]
        return tuple(sum(column) for column in zip(*parts))

    return list(of(a, n))


def coming(k, m, letters, a, w, h):
    """Of every patch of this size that comes to a: after how many growings first.

    The patches of 2 by 2 of one growing tell those of the next, so when the same ones stand there
    a second time, nothing new is to come.
    """
    squares = squares_of(k, m, letters)
    alone, once = pictures(k, m, letters, a, 1)
    first = {}
    for growings, picture in enumerate((alone, once)):
        for patch in patches(picture, w, h):
            first.setdefault(patch, growings)
    standing = frozenset(patches(once, 2, 2))
    before = set()
    growings = 1
    while standing not in before:
        before.add(standing)
        growings += 1
        coming_twos = set()
        for two in standing:
            grown = grow(k, squares, {(i % 2, i // 2): two[i] for i in range(4)})
            coming_twos |= patches(grown, 2, 2)
            for patch in patches(grown, w, h):
                first.setdefault(patch, growings)
        standing = frozenset(coming_twos)
    return first


def some_rules(seed, how_many):
    """Rules of k 2 and 3 with 1 to 4 letters, the same ones at every run.

    Every second one has squares of few letters, so that many patches never come.
    """
    drawn = random.Random(seed)
    rules = []
    for _ in range(how_many):
        for k in (2, 3):
            for m in (1, 2, 3, 4):
                letters = []
                for _ in range(m):
                    choice = list(range(1, m + 1))
                    if len(rules) % 2 == 1:
                        choice = [drawn.randint(1, m), drawn.randint(1, m)]
                    letters += [drawn.choice(choice) for _ in range(k * k)]
                rules.append((k, m, letters))
    return rules
