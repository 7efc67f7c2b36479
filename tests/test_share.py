"""Points 2 and 3: share, with its refusals."""

import fractions
import math
import unittest

from tests import plain
from tests.lines import TOP, ask, ask_last, classes, counts, mixed, paint, rule, share

LATEST = rule(2, 4, [2] * 4 + [3] * 4 + [4] * 4 + [1, 2, 1, 1])
ROUND = rule(2, 2, [2] * 4 + [1] * 4)


def mixed_rules(seed, how_many):
    return [told for told in plain.some_rules(seed, how_many) if plain.mixed(*told) is not None]


def shares(k, m, letters):
    return ask(rule(k, m, letters), *[share(a) for a in range(1, m + 1)])[1:]


def tally_after(k, m, letters, a, n):
    """How often each letter stands there, growing by growing: n may be large."""
    tally = [int(b == a) for b in range(1, m + 1)]
    for _ in range(n):
        tally = [sum(tally[c] * letters[c * k * k:(c + 1) * k * k].count(b) for c in range(m)) for b in range(1, m + 1)]
    return tally


class ShareAnswers(unittest.TestCase):
    def test_any_rules(self):
        seen = {}
        for k, m, letters in mixed_rules(101, 40):
            expected = [[part.numerator, part.denominator] for part in plain.parts(k, m, letters)]
            self.assertEqual(shares(k, m, letters), expected, (k, m, letters))
            seen[k, m] = True
        self.assertEqual(sorted(seen), [(k, m) for k in (2, 3) for m in (1, 2, 3, 4)])

    def test_lowest_terms_and_all_together_1(self):
        for k, m, letters in mixed_rules(102, 20):
            answered = shares(k, m, letters)
            for above, below in answered:
                self.assertGreater(above, 0)
                self.assertLessEqual(above, below)
                self.assertEqual(math.gcd(above, below), 1)
            self.assertEqual(sum(fractions.Fraction(*part) for part in answered), 1)

    def test_as_much_as_over_all_letters(self):
        for k, m, letters in mixed_rules(103, 20):
            parts = [fractions.Fraction(*part) for part in shares(k, m, letters)]
            for b in range(1, m + 1):
                often = [letters[a * k * k:(a + 1) * k * k].count(b) for a in range(m)]
                self.assertEqual(parts[b - 1] * k * k, sum(p * o for p, o in zip(parts, often)))

    def test_what_the_pattern_comes_near_to(self):
        for k, m, letters in mixed_rules(104, 4):
            parts = [fractions.Fraction(*part) for part in shares(k, m, letters)]
            for a in range(1, m + 1):
                tally = tally_after(k, m, letters, a, 600)
                for part, often in zip(parts, tally):
                    self.assertLess(abs(part - fractions.Fraction(often, k ** 1200)), fractions.Fraction(1, 10 ** 9))

    def test_by_hand(self):
        answered = ask(
            rule(2, 2, [1, 1, 1, 2] + [1] * 4), share(1), share(2),
            rule(3, 2, [1, 1, 1, 1, 2, 1, 1, 1, 1] + [1] + [2] * 8), share(1), share(2),
            LATEST, share(1), share(2), share(3), share(4),
        )
        self.assertEqual(answered, [
            [2], [4, 5], [1, 5], [2], [1, 2], [1, 2], [4], [1, 5], [4, 15], [4, 15], [4, 15],
        ])

    def test_parts_of_equal_squares_are_in_lowest_terms(self):
        answered = ask(
            rule(2, 2, [1, 2, 2, 1, 2, 1, 1, 2]), share(1), share(2),
            rule(2, 4, [1, 2, 3, 4] * 4), share(3), rule(3, 3, [1, 2, 3] * 9), share(2),
            rule(3, 4, [1, 1, 1, 2, 2, 2, 3, 3, 4] * 4), share(1), share(2), share(3), share(4),
        )
        self.assertEqual(answered, [
            [2], [1, 2], [1, 2], [4], [1, 4], [3], [1, 3], [4], [1, 3], [1, 3], [2, 9], [1, 9],
        ])

    def test_a_letter_alone(self):
        self.assertEqual(ask(rule(2, 1, [1] * 4), share(1), rule(3, 1, [1] * 9), share(1)), [[1], [1, 1]] * 2)

    def test_whatever_is_painted(self):
        self.assertEqual(ask(LATEST, paint([0, 0, 0, 0]), share(1), share(2))[2:], [[1, 5], [4, 15]])

    def test_before_any_rule(self):
        self.assertEqual(ask(share(1), share(0), share(2), share(TOP)), [[1, 1], [-1], [-1], [-1]])


class ShareRefusals(unittest.TestCase):
    def test_a_is_no_letter(self):
        for k in (2, 3):
            for m in (1, 2, 3, 4):
                told = rule(k, m, (list(range(1, m + 1)) * 9)[:k * k] * m)
                for a in (0, m + 1, m + 2, TOP):
                    self.assertEqual(ask_last(told, share(a)), [-1])
                self.assertEqual(len(ask_last(told, share(m))), 2)

    def test_never_mixed(self):
        for k, m, letters in plain.some_rules(105, 10):
            expected = [-3] if plain.mixed(k, m, letters) is None else None
            answered = ask(rule(k, m, letters), mixed(), *[share(a) for a in range(1, m + 1)])[1:]
            for answer in answered:
                self.assertEqual(answer == [-3], expected == [-3])
        answered = ask(ROUND, share(1), share(2), rule(3, 2, [1] * 18), share(1), share(2),
                       rule(2, 4, [2] * 4 + [3] * 4 + [4] * 4 + [1] * 4), share(1), share(4))
        self.assertEqual(answered, [[2], [-3], [-3], [2], [-3], [-3], [4], [-3], [-3]])

    def test_the_refusal_told_first(self):
        self.assertEqual(ask(ROUND, share(0), share(3), share(TOP), share(2))[1:], [[-1], [-1], [-1], [-3]])
        self.assertEqual(ask(rule(3, 2, [1] * 18), share(0), share(3), share(TOP))[1:], [[-1]] * 3)

    def test_after_a_refusal_all_is_as_it_was(self):
        asked = [classes(), counts(1, 3), share(2), mixed()]
        for told, wrong in [(LATEST, [share(0), share(5)]), (rule(2, 4, [1] * 16), [share(0), share(1), share(5)])]:
            painted = [told, paint([7, 7, 8, 8])]
            answered = ask(*painted, *wrong, *asked)
            self.assertEqual([len(answer) for answer in answered[2:2 + len(wrong)]], [1] * len(wrong))
            self.assertEqual(answered[2 + len(wrong):], ask(*painted, *asked)[2:])
