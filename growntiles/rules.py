"""The rule that a line's calls are about, and how its letters are painted."""

SIDES = (2, 3)
MOST_LETTERS = 4
HIGHEST_PAINT = 9


class Rule:
    def __init__(self):
        # With k 2 and m 1 there is only this one square that letter 1 can have.
        self.k = 2
        self.m = 1
        self.squares = [[1, 1, 1, 1]]
        self.paints = [1]

    def has_letter(self, a):
        return 1 <= a and a <= self.m

    def has_letters(self, letters):
        return are_letters(self.m, letters)

    def square_of(self, a):
        return self.squares[a - 1]

    def tell(self, k, m, letters):
        size = k * k
        self.k = k
        self.m = m
        self.squares = [letters[i * size:i * size + size] for i in range(m)]
        self.paints = list(range(1, m + 1))

    def paint(self, numbers):
        self.paints = list(numbers)


def are_letters(m, letters):
    return all([1 <= letter and letter <= m for letter in letters])


def rule_fits(k, m, letters):
    if k not in SIDES or m < 1 or m > MOST_LETTERS:
        return False
    return len(letters) == m * k * k and are_letters(m, letters)


def paint_fits(rule, numbers):
    if len(numbers) != rule.m:
        return False
    return all([number <= HIGHEST_PAINT for number in numbers])
