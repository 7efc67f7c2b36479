"""What stands where, and how often, when a letter has grown."""


def width_after(k, n):
    width = 1
    for growing in range(n):
        width = width * k
    return width


def letter_at(rule, a, n, x, y):
    # Only the one place of each growing that x, y lies in is followed: the whole would be too large.
    k = rule.k
    width = width_after(k, n)
    letter = a
    for growing in range(n):
        width = width // k
        column = x // width % k
        row = y // width % k
        letter = rule.square_of(letter)[row * k + column]
    return letter


def square_at(rule, a, n, x, y, side):
    """The letters of side columns from x on and side rows from y on, row by row."""
    letters = []
    for row in range(y, y + side):
        letters.extend([letter_at(rule, a, n, column, row) for column in range(x, x + side)])
    return letters


def grown_counts(rule, counts):
    grown = [0] * rule.m
    for a in range(1, rule.m + 1):
        for letter in rule.square_of(a):
            grown[letter - 1] += counts[a - 1]
    return grown


def counts_after(rule, a, n):
    counts = [0] * rule.m
    counts[a - 1] = 1
    for growing in range(n):
        counts = grown_counts(rule, counts)
    return counts


def grown_row(rule, row, level):
    letters = []
    for letter in row:
        letters.extend(rule.square_of(letter)[level * rule.k:level * rule.k + rule.k])
    return letters


def grown_rows(rule, rows):
    """Rows of letters, the lowest first, each place grown once."""
    grown = []
    for row in rows:
        for level in range(rule.k):
            grown.append(grown_row(rule, row, level))
    return grown
