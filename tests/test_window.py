"""Point 2: window, with its refusals."""

import random
import unittest

from tests import plain
from tests.lines import TOP, ask, ask_last, at, classes, counts, paint, rule, window

CARPET = rule(3, 2, [1, 1, 1, 1, 2, 1, 1, 1, 1] + [2] * 9)
MORSE = rule(2, 2, [1, 2, 2, 1, 2, 1, 1, 2])
CORNERS = rule(2, 4, [1, 2, 3, 4] * 4)


class WindowAnswers(unittest.TestCase):
    def test_each_window_of_small_pictures(self):
        for k, m, letters in plain.some_rules(71, 1):
            for a in range(1, m + 1):
                for n in (2, 3):
                    picture = plain.pictures(k, m, letters, a, n)[-1]
                    last = k ** n - 4
                    for x, y in [(0, 0), (last, last), (last, 0), (0, last), (last // 2, last // 3)]:
                        expected = [picture[x + i, y + j] for j in range(4) for i in range(4)]
                        answered = ask_last(rule(k, m, letters), window(a, n, x, y))
                        self.assertEqual(answered, expected, (k, m, letters, a, n, x, y))

    def test_far_away(self):
        drawn = random.Random(72)
        for k, m, letters in plain.some_rules(73, 3):
            for n in (4, 11, 19, 20):
                a = drawn.randint(1, m)
                x = drawn.randrange(k ** n - 3)
                y = drawn.randrange(k ** n - 3)
                expected = plain.window(k, m, letters, a, n, x, y)
                self.assertEqual(ask_last(rule(k, m, letters), window(a, n, x, y)), expected)

    def test_row_by_row_from_the_lowest_on(self):
        answered = ask(CORNERS, window(1, 2, 0, 0), window(1, 3, 1, 2))[1:]
        self.assertEqual(answered[0], [1, 2, 1, 2, 3, 4, 3, 4, 1, 2, 1, 2, 3, 4, 3, 4])
        self.assertEqual(answered[1], [2, 1, 2, 1, 4, 3, 4, 3, 2, 1, 2, 1, 4, 3, 4, 3])
        self.assertEqual(ask_last(MORSE, window(1, 2, 0, 0)), [1, 2, 2, 1, 2, 1, 1, 2, 2, 1, 1, 2, 1, 2, 2, 1])
        self.assertEqual(ask_last(CARPET, window(1, 2, 3, 2)), [1, 1, 1, 1, 2, 2, 2, 1, 2, 2, 2, 1, 2, 2, 2, 1])

    def test_columns_and_rows_are_not_mixed_up(self):
        told = rule(2, 4, [1, 2, 3, 4] + [2] * 4 + [3] * 4 + [4] * 4)
        answered = ask(told, window(1, 3, 0, 4), window(1, 3, 4, 0))[1:]
        self.assertEqual(answered, [[3] * 16, [2] * 16])

    def test_the_same_as_at(self):
        for k, m, letters in plain.some_rules(74, 2):
            x, y = k ** 20 - 9, 77
            places = [at(m, 20, x + i, y + j) for j in range(4) for i in range(4)]
            answered = ask(rule(k, m, letters), window(m, 20, x, y), *places)
            self.assertEqual(answered[1], [letter for answer in answered[2:] for letter in answer])

    def test_letters_are_answered_whatever_is_painted(self):
        asked = [window(1, 2, 0, 0), window(2, 5, 9, 17)]
        self.assertEqual(ask(MORSE, paint([9, 9]), *asked)[2:], ask(MORSE, *asked)[1:])

    def test_before_any_rule(self):
        answered = ask(
            window(1, 2, 0, 0), window(1, 20, 1048572, 1048572), window(1, 20, 1048573, 0), window(1, 1, 0, 0),
            window(1, 2, 1, 0), window(2, 2, 0, 0), window(0, 2, 0, 0), window(1, 21, 0, 0),
        )
        self.assertEqual(answered, [[1] * 16, [1] * 16, [-3], [-3], [-3], [-1], [-1], [-1]])


class WindowRefusals(unittest.TestCase):
    def test_a_is_no_letter(self):
        for k in (2, 3):
            for m in (1, 2, 3, 4):
                told = rule(k, m, [1] * (k * k * m))
                for a in (0, m + 1, m + 2, TOP):
                    self.assertEqual(ask_last(told, window(a, 2, 0, 0)), [-1])
                self.assertEqual(ask_last(told, window(m, 2, 0, 0)), [1] * 16)

    def test_n_is_above_20(self):
        for k in (2, 3):
            told = rule(k, 1, [1] * (k * k))
            answered = ask(told, window(1, 2, 0, 0), window(1, 20, 0, 0), window(1, 21, 0, 0), window(1, TOP, 0, 0))
            self.assertEqual(answered[1:], [[1] * 16, [1] * 16, [-1], [-1]])

    def test_after_0_growings_and_1_there_are_no_four_columns(self):
        for k in (2, 3):
            told = rule(k, 2, [1] * (2 * k * k))
            for n in (0, 1):
                for x, y in [(0, 0), (1, 0), (0, 1), (TOP, TOP)]:
                    self.assertEqual(ask_last(told, window(1, n, x, y)), [-3], (k, n, x, y))

    def test_the_last_window_and_one_beyond(self):
        for k in (2, 3):
            told = rule(k, 2, [2] * (k * k - 1) + [1] + [1] * (k * k))
            for n in (2, 3, 7, 19, 20):
                last = k ** n - 4
                answered = ask(
                    told, window(1, n, last, 0), window(1, n, 0, last), window(1, n, last, last),
                    window(1, n, last + 1, 0), window(1, n, 0, last + 1), window(1, n, last + 1, last + 1),
                    window(1, n, last + 3, 0), window(1, n, 0, last + 3), window(1, n, last + 4, last),
                )[1:]
                self.assertEqual([len(answer) for answer in answered[:3]], [16] * 3)
                self.assertEqual(answered[2][-1], 1)
                self.assertEqual(answered[3:], [[-3]] * 6)

    def test_the_highest_numbers(self):
        for k in (2, 3):
            told = rule(k, 2, [1] * (2 * k * k))
            answered = ask(
                told, window(1, 20, TOP, 0), window(1, 20, 0, TOP), window(1, 20, TOP, TOP),
                window(TOP, 20, 0, 0), window(1, TOP, 0, 0), window(TOP, TOP, TOP, TOP),
            )
            self.assertEqual(answered[1:], [[-3]] * 3 + [[-1]] * 3)

    def test_the_refusal_told_first(self):
        for k in (2, 3):
            answered = ask(
                rule(k, 2, [1] * (2 * k * k)), window(3, 2, k * k - 3, 0), window(0, 2, 0, k * k - 3),
                window(0, 0, 0, 0), window(3, 1, 0, 0), window(1, 21, TOP, 0), window(1, 21, 0, TOP),
            )
            self.assertEqual(answered[1:], [[-1]] * 6)

    def test_after_a_refusal_all_is_as_it_was(self):
        told = [CARPET, paint([5, 5])]
        asked = [window(1, 2, 3, 2), counts(1, 2), classes()]
        wrong = [window(3, 2, 0, 0), window(1, 21, 0, 0), window(1, 2, 6, 0), window(1, 2, 0, 6)]
        answered = ask(*told, *wrong, *asked)
        self.assertEqual(answered[2:6], [[-1], [-1], [-3], [-3]])
        self.assertEqual(answered[6:], ask(*told, *asked)[2:])
        self.assertEqual(answered[-1], [1, 1, 1])
