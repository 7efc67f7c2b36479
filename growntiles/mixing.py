"""When letters are mixed, and what part of all places each has in the end."""

from growntiles.growing import counts_after, grown_counts


def counts_of_all(rule, n):
    return [counts_after(rule, a, n) for a in range(1, rule.m + 1)]


def mixed_after(rule):
    # Wielandt: m letters that are ever mixed are so after (m - 1) * (m - 1) + 1 growings at the latest.
    latest = (rule.m - 1) * (rule.m - 1) + 1
    grown = counts_of_all(rule, 0)
    for growings in range(latest + 1):
        if not any([0 in counts for counts in grown]):
            return growings
        grown = [grown_counts(rule, counts) for counts in grown]
    return None


def without(rows, row, column):
    kept = rows[:row] + rows[row + 1:]
    return [numbers[:column] + numbers[column + 1:] for numbers in kept]


def determinant(rows):
    if len(rows) == 0:
        return 1
    total = 0
    sign = 1
    for column in range(len(rows)):
        total += sign * rows[0][column] * determinant(without(rows, 0, column))
        sign = -sign
    return total


def balance_of(rule):
    """Of each letter, in its own column k times k, less how often each letter stands in its square."""
    balance = []
    for a, counts in enumerate(counts_of_all(rule, 1), start=1):
        numbers = [-count for count in counts]
        numbers[a - 1] += rule.k * rule.k
        balance.append(numbers)
    return balance


def greatest_divisor(one, other):
    while other > 0:
        rest = one % other
        one = other
        other = rest
    return one


def part_of(rule, a):
    """The part in the end of a, one of letters that are mixed for some n: above and below the line."""
    # Each row times its letter's part, the balance's rows add up to 0 in each column; and each row
    # by itself adds up to 0. So the parts are to one another as the determinants of what is left
    # of the balance without each letter's own row and column.
    balance = balance_of(rule)
    weights = [determinant(without(balance, i, i)) for i in range(rule.m)]
    above = weights[a - 1]
    below = sum(weights)
    divisor = greatest_divisor(above, below)
    return [above // divisor, below // divisor]
