"""Point 2: at, with its refusals."""

import random
import unittest

from tests import plain
from tests.lines import TOP, ask, ask_last, at, counts, rule

CARPET = rule(3, 2, [1, 1, 1, 1, 2, 1, 1, 1, 1] + [2] * 9)


class AtAnswers(unittest.TestCase):
    def test_each_place_of_small_pictures(self):
        for k, m, letters in plain.some_rules(21, 2):
            for a in range(1, m + 1):
                for n, picture in enumerate(plain.pictures(k, m, letters, a, 3)):
                    for x, y in picture:
                        answered = ask_last(rule(k, m, letters), at(a, n, x, y))
                        self.assertEqual(answered, [picture[x, y]], (k, m, letters, a, n, x, y))

    def test_far_away(self):
        drawn = random.Random(22)
        for k, m, letters in plain.some_rules(23, 4):
            for n in (5, 10, 19, 20):
                a = drawn.randint(1, m)
                x = drawn.randrange(k ** n)
                y = drawn.randrange(k ** n)
                expected = plain.place(k, m, letters, a, n, x, y)
                self.assertEqual(ask_last(rule(k, m, letters), at(a, n, x, y)), [expected])

    def test_grown_0_times_it_is_itself(self):
        for a in (1, 2, 3, 4):
            self.assertEqual(ask_last(rule(2, 4, [1] * 16), at(a, 0, 0, 0)), [a])

    def test_columns_and_rows_are_not_mixed_up(self):
        told = rule(2, 4, [1, 2, 3, 4] + [2] * 4 + [3] * 4 + [4] * 4)
        answered = ask(told, at(1, 1, 0, 0), at(1, 1, 1, 0), at(1, 1, 0, 1), at(1, 1, 1, 1), at(1, 2, 1, 2), at(1, 2, 2, 1))
        self.assertEqual(answered[1:], [[1], [2], [3], [4], [3], [2]])

    def test_the_last_growing_is_the_finest(self):
        answered = ask(CARPET, at(1, 2, 4, 4), at(1, 2, 1, 1), at(1, 2, 3, 5), at(1, 2, 2, 3), at(1, 2, 7, 1))
        self.assertEqual(answered[1:], [[2], [2], [2], [1], [2]])

    def test_before_any_rule(self):
        answered = ask(at(1, 0, 0, 0), at(1, 20, 1048575, 1048575), at(1, 20, 1048576, 0), at(2, 0, 0, 0), at(0, 0, 0, 0))
        self.assertEqual(answered, [[1], [1], [-3], [-1], [-1]])


class AtRefusals(unittest.TestCase):
    def test_a_is_no_letter(self):
        for m in (1, 2, 3, 4):
            for a in (0, m + 1, m + 2, TOP):
                self.assertEqual(ask_last(rule(2, m, [1] * (4 * m)), at(a, 1, 0, 0)), [-1])
            self.assertEqual(ask_last(rule(2, m, [1] * (4 * m)), at(m, 1, 0, 0)), [1])

    def test_n_is_above_20(self):
        for told in (rule(2, 1, [1] * 4), rule(3, 1, [1] * 9)):
            answered = ask(told, at(1, 20, 0, 0), at(1, 21, 0, 0), at(1, 61, 0, 0), at(1, TOP, 0, 0))
            self.assertEqual(answered[1:], [[1], [-1], [-1], [-1]])

    def test_the_last_place_and_one_beyond(self):
        for k in (2, 3):
            told = rule(k, 2, [2] * (k * k - 1) + [1] + [1] * (k * k))
            for n in (0, 1, 2, 7, 19, 20):
                last = k ** n - 1
                answered = ask(
                    told, at(1, n, last, 0), at(1, n, 0, last), at(1, n, last, last),
                    at(1, n, last + 1, 0), at(1, n, 0, last + 1), at(1, n, last + 1, last + 1),
                    at(1, n, TOP, 0), at(1, n, 0, TOP),
                )[1:]
                self.assertEqual([answer[0] > 0 for answer in answered[:3]], [True] * 3)
                self.assertEqual(answered[2], [1])
                self.assertEqual(answered[3:], [[-3]] * 5)

    def test_the_refusal_told_first(self):
        for told in (rule(2, 2, [1] * 8), rule(3, 2, [1] * 18)):
            answered = ask(
                told, at(3, 1, 3, 0), at(0, 1, 0, 3), at(TOP, 1, TOP, TOP),
                at(1, 21, TOP, 0), at(1, 21, 0, TOP), at(0, 21, TOP, TOP), at(TOP, TOP, TOP, TOP),
            )
            self.assertEqual(answered[1:], [[-1]] * 7)

    def test_after_a_refusal_all_is_as_it_was(self):
        asked = [at(1, 2, 4, 4), at(1, 2, 2, 3), counts(1, 2)]
        wrong = [at(3, 0, 0, 0), at(1, 21, 0, 0), at(1, 2, 9, 0), at(1, 2, 0, 9)]
        self.assertEqual(ask(CARPET, *wrong, *asked)[5:], ask(CARPET, *asked)[1:])
