"""The document's words done plainly and slowly, with none of the program's own code."""

import fractions
import functools
import random


def squares_of(k, m, letters):
    """Each letter's square, as rows from the lowest on."""
    squares = {}
    for a in range(1, m + 1):
        own = letters[(a - 1) * k * k:a * k * k]
        squares[a] = [own[row * k:row * k + k] for row in range(k)]
    return squares


def grow(k, squares, picture):
    """A picture is a dict: of each place x, y its letter."""
    return {
        (x * k + column, y * k + row): squares[letter][row][column]
        for (x, y), letter in picture.items()
        for row in range(k)
        for column in range(k)
    }


def pictures(k, m, letters, a, most):
    """The letter a grown 0 to most times."""
    squares = squares_of(k, m, letters)
    shown = [{(0, 0): a}]
    for _ in range(most):
        shown.append(grow(k, squares, shown[-1]))
    return shown


def patches(picture, w, h):
    """Every patch of this size that stands in a picture."""
    found = set()
    for x, y in picture:
        if (x + w - 1, y + h - 1) in picture:
            found.add(tuple(picture[x + i, y + j] for j in range(h) for i in range(w)))
    return found


def place(k, m, letters, a, n, x, y):
    """The letter at x, y, told from the place one growing before on."""
    if n == 0:
        return a
    before = place(k, m, letters, a, n - 1, x // k, y // k)
    return squares_of(k, m, letters)[before][y % k][x % k]


def tally(k, m, letters, a, n):
    """How often each letter stands there, told from the letters of a's own square on."""
    squares = squares_of(k, m, letters)

    @functools.cache
    def of(letter, growings):
        if growings == 0:
            return tuple(int(letter == other) for other in range(1, m + 1))
        parts = [of(inner, growings - 1) for row in squares[letter] for inner in row]
        return tuple(sum(column) for column in zip(*parts))

    return list(of(a, n))


def coming(k, m, letters, a, w, h):
    """Of every patch of this size that comes to a: after how many growings first.

    The patches of 2 by 2 of one growing tell those of the next, so when the same ones stand there
    a second time, nothing new is to come.
    """
    squares = squares_of(k, m, letters)
    alone, once = pictures(k, m, letters, a, 1)
    first = {}
    for growings, picture in enumerate((alone, once)):
        for patch in patches(picture, w, h):
            first.setdefault(patch, growings)
    standing = frozenset(patches(once, 2, 2))
    before = set()
    growings = 1
    while standing not in before:
        before.add(standing)
        growings += 1
        coming_twos = set()
        for two in standing:
            grown = grow(k, squares, {(i % 2, i // 2): two[i] for i in range(4)})
            coming_twos |= patches(grown, 2, 2)
            for patch in patches(grown, w, h):
                first.setdefault(patch, growings)
        standing = frozenset(coming_twos)
    return first


def places(picture, w, h, patch):
    """Every place x, y at which the lowest left letter of this patch stands."""
    steps = [(i, j) for j in range(h) for i in range(w)]
    return [(x, y) for x, y in picture
            if all(picture.get((x + i, y + j)) == letter for (i, j), letter in zip(steps, patch))]


def first(k, m, letters, a, w, h, patch):
    """What the call first is answered for a patch that fits."""
    known = coming(k, m, letters, a, w, h)
    if tuple(patch) not in known:
        return [-3]
    growings = known[tuple(patch)]
    if growings > 4:
        return [-7]
    y, x = min((y, x) for x, y in places(pictures(k, m, letters, a, growings)[-1], w, h, patch))
    return [growings, x, y]


def mixed(k, m, letters):
    """The lowest n for which letters are mixed, or None.

    Which letters each one has in it after one growing tells which after the next, so when the same
    stand there a second time, they are never mixed.
    """
    squares = squares_of(k, m, letters)
    inside = {a: frozenset([a]) for a in squares}
    before = []
    while inside not in before:
        if all(len(inside[a]) == m for a in inside):
            return len(before)
        before.append(inside)
        inside = {a: frozenset().union(*[inside[b] for row in squares[a] for b in row]) for a in squares}
    return None


def parts(k, m, letters):
    """The letters' parts in the end, found by taking one unknown after another away."""
    rows = []
    for b in range(1, m):
        often = [letters[a * k * k:(a + 1) * k * k].count(b) for a in range(m)]
        often[b - 1] -= k * k
        rows.append([fractions.Fraction(number) for number in often + [0]])
    rows.append([fractions.Fraction(1)] * (m + 1))
    for column in range(m):
        pivot = next(i for i in range(column, m) if rows[i][column] != 0)
        rows[column], rows[pivot] = rows[pivot], rows[column]
        rows[column] = [number / rows[column][column] for number in rows[column]]
        for i in range(m):
            if i != column:
                rows[i] = [x - rows[i][column] * y for x, y in zip(rows[i], rows[column])]
    return [row[-1] for row in rows]


def apart_after(k, m, letters, paints, most):
    """Of each two letters: after how many growings, 0 to most, they first look different, or None."""
    shown = {a: pictures(k, m, letters, a, most) for a in range(1, m + 1)}
    looks = {a: [{p: paints[letter - 1] for p, letter in picture.items()} for picture in shown[a]] for a in shown}
    return {(a, b): next((n for n in range(most + 1) if looks[a][n] != looks[b][n]), None)
            for a in shown for b in shown if a < b}


def classes(k, m, letters, paints, most=4):
    """What the call classes is answered, as far as so many growings show."""
    apart = apart_after(k, m, letters, paints, most)
    kinds = []
    for b in range(1, m + 1):
        alike = [a for a in range(1, b) if apart[a, b] is None]
        kinds.append(kinds[alike[0] - 1] if alike else max(kinds, default=0) + 1)
    return [max(kinds)] + kinds


def window(k, m, letters, a, n, x, y):
    return [place(k, m, letters, a, n, x + i, y + j) for j in range(4) for i in range(4)]


def some_rules(seed, how_many):
    """Rules of k 2 and 3 with 1 to 4 letters, the same ones at every run.

    Every second one has squares of few letters, so that many patches never come.
    """
    drawn = random.Random(seed)
    rules = []
    for _ in range(how_many):
        for k in (2, 3):
            for m in (1, 2, 3, 4):
                letters = []
                for _ in range(m):
                    choice = list(range(1, m + 1))
                    if len(rules) % 2 == 1:
                        choice = [drawn.randint(1, m), drawn.randint(1, m)]
                    letters += [drawn.choice(choice) for _ in range(k * k)]
                rules.append((k, m, letters))
    return rules
