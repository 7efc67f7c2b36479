"""The whole document once more, call by call and slowly, to hold whole lines against."""

import functools

from tests import plain


@functools.cache
def coming(k, m, letters, a, w, h):
    return plain.coming(k, m, letters, a, w, h)


@functools.cache
def first(k, m, letters, a, w, h, patch):
    return plain.first(k, m, letters, a, w, h, patch)


@functools.cache
def classes(k, m, letters, paints):
    return plain.classes(k, m, letters, paints)


class Model:
    def __init__(self):
        self.told = (2, 1, (1, 1, 1, 1))
        self.paints = (1,)

    def is_letter(self, a):
        return a in range(1, self.told[1] + 1)

    def rule(self, k, m, *row):
        letters = row[1:]
        if k not in (2, 3) or m not in (1, 2, 3, 4) or len(letters) != m * k * k:
            return [-1]
        if not set(letters) <= set(range(1, m + 1)):
            return [-1]
        self.told = (k, m, letters)
        self.paints = tuple(range(1, m + 1))
        return [m]

    def paint(self, *row):
        if len(row) - 1 != self.told[1] or not set(row[1:]) <= set(range(10)):
            return [-1]
        self.paints = row[1:]
        return [0]

    def at(self, a, n, x, y):
        if not self.is_letter(a) or n not in range(21):
            return [-1]
        if max(x, y) > self.told[0] ** n - 1:
            return [-3]
        return [plain.place(*self.told, a, n, x, y)]

    def counts(self, a, n):
        if not self.is_letter(a) or n not in range(61):
            return [-1]
        return plain.tally(*self.told, a, n)

    def twos(self, a):
        if not self.is_letter(a):
            return [-1]
        known = sorted(coming(*self.told, a, 2, 2))
        return [len(known)] + [letter for two in known for letter in two]

    def is_patch(self, a, w, h, row):
        if not self.is_letter(a) or w not in (1, 2, 3) or h not in (1, 2, 3):
            return False
        return len(row) == 1 + w * h and all(self.is_letter(letter) for letter in row[1:])

    def ever(self, a, w, h, *row):
        if not self.is_patch(a, w, h, row):
            return [-1]
        return [int(row[1:] in coming(*self.told, a, w, h))]

    def first(self, a, w, h, *row):
        if not self.is_patch(a, w, h, row):
            return [-1]
        return first(*self.told, a, w, h, row[1:])

    def mixed(self):
        growings = plain.mixed(*self.told)
        return [-3 if growings is None else growings]

    def share(self, a):
        if not self.is_letter(a):
            return [-1]
        if plain.mixed(*self.told) is None:
            return [-3]
        part = plain.parts(*self.told)[a - 1]
        return [part.numerator, part.denominator]

    def classes(self):
        return classes(*self.told, self.paints)

    def window(self, a, n, x, y):
        if not self.is_letter(a) or n not in range(21):
            return [-1]
        if max(x, y) + 3 > self.told[0] ** n - 1:
            return [-3]
        return plain.window(*self.told, a, n, x, y)


CALLS = ("rule", "paint", "at", "counts", "twos", "ever", "first", "mixed", "share", "classes", "window")


def answered(calls):
    """What each of these calls, all in one line, is to be answered."""
    model = Model()
    return [getattr(model, CALLS[call[0]])(*call[1:]) for call in calls]
