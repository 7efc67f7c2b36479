"""Point 3: mixed, with its refusal."""

import itertools
import unittest

from tests import plain
from tests.lines import ask, ask_last, at, classes, mixed, paint, rule, share

# Letters 1 to 3 each become the next one; letter 4 becomes 1 and 2: so rounds of 4 and of 3 growings.
LATEST_2 = rule(2, 4, [2] * 4 + [3] * 4 + [4] * 4 + [1, 2, 1, 1])
LATEST_3 = rule(3, 4, [2] * 9 + [3] * 9 + [4] * 9 + [1] * 8 + [2])
ROUND_2 = rule(2, 2, [2] * 4 + [1] * 4)


def answer_of(growings):
    return [-3] if growings is None else [growings]


def letters_of(insides, k):
    """Squares in which just these letters stand."""
    letters = []
    for inside in insides:
        letters += (list(inside) * (k * k))[:k * k]
    return letters


class MixedAnswers(unittest.TestCase):
    def test_any_rules(self):
        seen = {}
        for k, m, letters in plain.some_rules(91, 60):
            expected = answer_of(plain.mixed(k, m, letters))
            self.assertEqual(ask_last(rule(k, m, letters), mixed()), expected, (k, m, letters))
            seen[m, expected[0]] = True
        for m, growings in [(1, 0), (2, 1), (2, 2), (2, -3), (3, 1), (3, 2), (3, -3), (4, 3), (4, 4), (4, -3)]:
            self.assertIn((m, growings), seen)

    def test_all_that_two_and_three_letters_can_have_in_them(self):
        highest = {}
        for m in (2, 3):
            insides = [inside for size in range(1, m + 1) for inside in itertools.combinations(range(1, m + 1), size)]
            for chosen in itertools.product(insides, repeat=m):
                for k in (2, 3):
                    letters = letters_of(chosen, k)
                    expected = answer_of(plain.mixed(k, m, letters))
                    self.assertEqual(ask_last(rule(k, m, letters), mixed()), expected, (k, m, letters))
                    highest[m] = max(highest.get(m, 0), expected[0])
        self.assertEqual(highest, {2: 2, 3: 5})

    def test_all_that_four_letters_can_have_in_them(self):
        insides = [inside for size in (1, 2, 3, 4) for inside in itertools.combinations(range(1, 5), size)]
        seen = {}
        for i, chosen in enumerate(itertools.product(insides, repeat=4)):
            k = 2 + i % 2
            letters = letters_of(chosen, k)
            expected = answer_of(plain.mixed(k, 4, letters))
            self.assertEqual(ask_last(rule(k, 4, letters), mixed()), expected, (k, letters))
            seen[expected[0]] = True
        self.assertEqual(sorted(seen), [-3, 1, 2, 3, 4, 5, 6, 9, 10])

    def test_one_letter_is_mixed_without_growing(self):
        self.assertEqual(ask(rule(2, 1, [1] * 4), mixed(), rule(3, 1, [1] * 9), mixed()), [[1], [0], [1], [0]])

    def test_1_growing(self):
        for k in (2, 3):
            for m in (2, 3, 4):
                told = rule(k, m, (list(range(1, m + 1)) * 9)[:k * k] * m)
                self.assertEqual(ask(told, mixed()), [[m], [1]])

    def test_one_letter_that_lacks_one_is_enough(self):
        told = rule(2, 4, [1, 2, 3, 4] * 3 + [1, 2, 3, 3])
        self.assertEqual(ask_last(told, mixed()), [2])

    def test_2_and_3_growings(self):
        answered = ask(rule(2, 2, [2] * 4 + [1, 2, 1, 2]), mixed(), rule(3, 3, [2] * 9 + [3] * 9 + [1, 2, 3] * 3), mixed())
        self.assertEqual(answered[1::2], [[2], [3]])

    def test_as_many_growings_as_letters_can_need(self):
        self.assertEqual(ask(LATEST_2, mixed(), LATEST_3, mixed()), [[4], [10], [4], [10]])
        three = ask(rule(2, 3, [2] * 4 + [3] * 4 + [1, 2, 2, 2]), mixed(), rule(3, 3, [2] * 9 + [3] * 9 + [1] + [2] * 8), mixed())
        self.assertEqual(three, [[3], [5], [3], [5]])

    def test_whatever_is_painted(self):
        self.assertEqual(ask(LATEST_2, paint([3, 3, 3, 3]), mixed())[2:], [[10]])

    def test_before_any_rule(self):
        self.assertEqual(ask(mixed()), [[0]])


class NeverMixed(unittest.TestCase):
    def test_letters_that_never_come(self):
        answered = ask(
            rule(2, 2, [1] * 4 + [1] * 4), mixed(), rule(2, 2, [1] * 4 + [1, 2, 1, 2]), mixed(),
            rule(3, 3, [1, 2, 1, 2, 1, 2, 1, 2, 1] + [1] * 9 + [1, 2, 3] * 3), mixed(),
            rule(2, 4, [1, 2, 1, 2] * 2 + [3, 4, 3, 4] * 2), mixed(), rule(2, 4, [1, 2, 3, 3] * 4), mixed(),
        )
        self.assertEqual(answered[1::2], [[-3]] * 5)

    def test_each_comes_to_each_but_never_all_at_once(self):
        answered = ask(
            ROUND_2, mixed(), rule(3, 2, [2] * 9 + [1] * 9), mixed(),
            rule(2, 3, [2] * 4 + [3] * 4 + [1] * 4), mixed(), rule(3, 3, [2, 3, 2] * 3 + [1] * 18), mixed(),
            rule(2, 4, [2] * 4 + [3] * 4 + [4] * 4 + [1] * 4), mixed(),
            rule(2, 4, [3, 4, 3, 4] * 2 + [1, 2, 2, 1] * 2), mixed(),
            rule(3, 4, [2] * 9 + [1, 3, 3] * 3 + [2, 4, 4] * 3 + [3] * 9), mixed(),
        )
        self.assertEqual(answered[1::2], [[-3]] * 7)

    def test_after_the_refusal_all_is_as_it_was(self):
        told = [rule(3, 3, [2, 3, 2] * 3 + [1] * 18), paint([4, 4, 4])]
        asked = [classes(), at(1, 3, 4, 5), mixed(), share(1)]
        answered = ask(*told, mixed(), *asked)
        self.assertEqual(answered[3:], ask(*told, *asked)[2:])
        self.assertEqual(answered[2:4], [[-3], [1, 1, 1, 1]])
