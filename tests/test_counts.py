"""Point 2: counts, with its refusals."""

import unittest

from tests import plain
from tests.lines import TOP, ask, ask_last, at, counts, rule


class CountsAnswers(unittest.TestCase):
    def test_as_often_as_they_stand_there(self):
        for k, m, letters in plain.some_rules(31, 2):
            for a in range(1, m + 1):
                for n, picture in enumerate(plain.pictures(k, m, letters, a, 4)):
                    standing = list(picture.values())
                    expected = [standing.count(letter) for letter in range(1, m + 1)]
                    self.assertEqual(ask_last(rule(k, m, letters), counts(a, n)), expected)

    def test_many_growings(self):
        for k, m, letters in plain.some_rules(32, 3):
            for n in (5, 21, 59, 60):
                for a in range(1, m + 1):
                    answered = ask_last(rule(k, m, letters), counts(a, n))
                    self.assertEqual(answered, plain.tally(k, m, letters, a, n))
                    self.assertEqual(sum(answered), k ** (2 * n))

    def test_grown_0_times(self):
        told = rule(2, 4, [2] * 16)
        answered = ask(told, counts(1, 0), counts(2, 0), counts(3, 0), counts(4, 0))
        self.assertEqual(answered[1:], [[1, 0, 0, 0], [0, 1, 0, 0], [0, 0, 1, 0], [0, 0, 0, 1]])

    def test_carpet(self):
        told = rule(3, 2, [1, 1, 1, 1, 2, 1, 1, 1, 1] + [2] * 9)
        answered = ask(told, counts(1, 1), counts(1, 2), counts(1, 60), counts(2, 60))
        self.assertEqual(answered[1:], [[8, 1], [64, 17], [8 ** 60, 9 ** 60 - 8 ** 60], [0, 9 ** 60]])

    def test_letters_that_never_come_are_counted_0(self):
        told = rule(2, 3, [1] * 4 + [1] * 4 + [3] * 4)
        self.assertEqual(ask(told, counts(1, 5), counts(2, 5), counts(3, 5))[1:],
                         [[1024, 0, 0], [1024, 0, 0], [0, 0, 1024]])

    def test_before_any_rule(self):
        answered = ask(counts(1, 0), counts(1, 1), counts(1, 60), counts(1, 61), counts(2, 0), counts(0, 0))
        self.assertEqual(answered, [[1], [4], [4 ** 60], [-1], [-1], [-1]])


class CountsRefusals(unittest.TestCase):
    def test_a_is_no_letter(self):
        for m in (1, 2, 3, 4):
            for a in (0, m + 1, TOP):
                for n in (0, 1, 60):
                    self.assertEqual(ask_last(rule(3, m, [1] * (9 * m)), counts(a, n)), [-1])

    def test_n_is_above_60(self):
        for k in (2, 3):
            told = rule(k, 1, [1] * (k * k))
            answered = ask(told, counts(1, 20), counts(1, 21), counts(1, 60), counts(1, 61), counts(1, TOP))
            self.assertEqual(answered[1:], [[k ** 40], [k ** 42], [k ** 120], [-1], [-1]])

    def test_both_at_once(self):
        self.assertEqual(ask(counts(0, 61), counts(2, 61), counts(TOP, TOP)), [[-1]] * 3)

    def test_after_a_refusal_all_is_as_it_was(self):
        told = rule(2, 2, [1, 2, 2, 2, 1, 1, 1, 2])
        asked = [counts(1, 3), counts(2, 2), at(1, 2, 3, 1)]
        self.assertEqual(ask(told, counts(3, 1), counts(1, 61), *asked)[3:], ask(told, *asked)[1:])
