"""Point 1: rule and paint, with their refusals."""

import unittest

from growntiles.letters import answer_call
from growntiles.rules import Rule
from tests import plain
from tests.lines import TOP, ask, ask_last, at, counts, ever, paint, rule, twos

TWO = rule(2, 2, [1, 2, 2, 1, 2, 1, 1, 2])
TWO_ASKED = [at(1, 1, 1, 0), at(2, 1, 1, 0), counts(1, 3), twos(2), ever(1, 2, 1, [1, 1]), paint([3, 4])]


class RuleAnswers(unittest.TestCase):
    def test_m_is_answered(self):
        for k, m, letters in plain.some_rules(11, 2):
            self.assertEqual(ask(rule(k, m, letters)), [[m]])

    def test_squares_are_told_letter_by_letter_from_the_lowest_row_and_the_left(self):
        for k, m, letters in plain.some_rules(12, 2):
            for a in range(1, m + 1):
                asked = [at(a, 1, x, y) for y in range(k) for x in range(k)]
                own = letters[(a - 1) * k * k:a * k * k]
                self.assertEqual(ask(rule(k, m, letters), *asked)[1:], [[letter] for letter in own])

    def test_a_later_rule_takes_the_place_of_the_one_before(self):
        answered = ask(
            rule(3, 4, [4] * 36), at(1, 1, 2, 2), counts(1, 1),
            rule(2, 2, [2] * 4 + [1] * 4), at(1, 1, 1, 1), at(1, 1, 2, 2), at(3, 0, 0, 0), counts(1, 1),
            rule(3, 1, [1] * 9), at(1, 1, 2, 2), at(2, 0, 0, 0), counts(1, 1),
        )
        self.assertEqual(answered, [
            [4], [4], [0, 0, 0, 9],
            [2], [2], [-3], [-1], [0, 4],
            [1], [1], [-1], [9],
        ])


class RuleRefusals(unittest.TestCase):
    def refused(self, k, m, letters):
        self.assertEqual(ask(rule(k, m, letters)), [[-1]])
        untouched = ask(TWO, *TWO_ASKED)[1:]
        after = ask(TWO, rule(k, m, letters), *TWO_ASKED)
        self.assertEqual(after, [[2], [-1]] + untouched)

    def test_k(self):
        for k in (0, 1, 4, 5, 6, TOP):
            self.refused(k, 1, [1] * min(k * k, 60))
            self.refused(k, 1, [1] * 4)
            self.refused(k, 1, [1] * 9)
        self.refused(0, 1, [])
        self.refused(1, 1, [1])
        self.refused(4, 1, [1] * 16)

    def test_m(self):
        self.refused(2, 0, [])
        self.refused(3, 0, [])
        self.refused(2, 0, [1] * 4)
        self.refused(2, 5, [1] * 20)
        self.refused(3, 5, [1] * 45)
        self.refused(3, 6, [1] * 54)
        self.refused(2, TOP, [1] * 4)
        self.refused(TOP, TOP, [TOP] * 60)

    def test_how_many_letters(self):
        for k in (2, 3):
            for m in (1, 2, 3, 4):
                self.refused(k, m, [])
                self.refused(k, m, [1] * (m * k * k - 1))
                self.refused(k, m, [1] * (m * k * k + 1))
                self.refused(k, m, [1] * 60)
        self.refused(2, 2, [1] * 18)
        self.refused(3, 2, [1] * 8)

    def test_a_letter(self):
        for k in (2, 3):
            for m in (1, 2, 3, 4):
                for wrong in (0, m + 1, TOP):
                    for where in (0, m * k * k // 2, m * k * k - 1):
                        letters = [1] * (m * k * k)
                        letters[where] = wrong
                        self.refused(k, m, letters)

    def test_before_any_rule_all_is_as_it_was(self):
        answered = ask(rule(3, 2, [1] * 17), at(1, 1, 1, 1), at(1, 1, 2, 0), at(2, 0, 0, 0), paint([0]))
        self.assertEqual(answered, [[-1], [1], [-3], [-1], [0]])


class PaintAnswers(unittest.TestCase):
    def test_0_is_answered(self):
        for k in (2, 3):
            for m in (1, 2, 3, 4):
                for numbers in ([0] * m, [9] * m, [5, 0, 9, 5][:m]):
                    self.assertEqual(ask_last(rule(k, m, [1] * (m * k * k)), paint(numbers)), [0])

    def test_before_any_rule_there_is_one_letter(self):
        self.assertEqual(ask(paint([9]), paint([0, 1]), paint([])), [[0], [-1], [-1]])

    def test_letters_stay_what_they_are(self):
        asked = TWO_ASKED[:-1]
        self.assertEqual(ask(TWO, paint([7, 7]), *asked)[2:], ask(TWO, *asked)[1:])


class PaintRefusals(unittest.TestCase):
    def test_how_many_numbers(self):
        for m in (1, 2, 3, 4):
            for size in (0, 1, 2, 3, 4, 5, 12):
                expected = [0] if size == m else [-1]
                self.assertEqual(ask_last(rule(2, m, [1] * (4 * m)), paint([1] * size)), expected)

    def test_a_number_above_9(self):
        for m in (1, 2, 3, 4):
            for where in range(m):
                for number in (10, 11, TOP):
                    numbers = [1] * m
                    numbers[where] = number
                    self.assertEqual(ask_last(rule(3, m, [1] * (9 * m)), paint(numbers)), [-1])

    def test_after_a_refused_rule_as_many_as_before(self):
        answered = ask(rule(2, 3, [1] * 12), rule(2, 2, [3] * 8), paint([1, 2]), paint([1, 2, 3]))
        self.assertEqual(answered, [[3], [-1], [-1], [0]])


class WhatIsPainted(unittest.TestCase):
    def painted(self, *calls):
        kept = Rule()
        for call, numbers, row in calls:
            answer_call(kept, call, numbers, row)
        return kept.paints

    def test_told_a_rule_letters_are_painted_their_own_numbers(self):
        self.assertEqual(self.painted(), [1])
        for m in (1, 2, 3, 4):
            self.assertEqual(self.painted((0, [2, m], [1] * (4 * m))), [1, 2, 3, 4][:m])

    def test_each_letter_in_order(self):
        self.assertEqual(self.painted((0, [2, 3], [1] * 12), (1, [], [9, 0, 4])), [9, 0, 4])

    def test_a_new_rule_paints_anew(self):
        told = (0, [2, 3], [1] * 12)
        self.assertEqual(self.painted(told, (1, [], [9, 0, 4]), told), [1, 2, 3])

    def test_a_refusal_leaves_the_paint(self):
        told = (0, [2, 3], [1] * 12)
        painted = (1, [], [9, 0, 4])
        self.assertEqual(self.painted(told, painted, (1, [], [1, 1, 10])), [9, 0, 4])
        self.assertEqual(self.painted(told, painted, (1, [], [1, 1])), [9, 0, 4])
        self.assertEqual(self.painted(told, painted, (0, [2, 3], [4] * 12)), [9, 0, 4])
