"""Point 2: twos, with its refusals."""

import unittest

from tests import plain
from tests.lines import TOP, ask, ask_last, at, counts, rule, twos

MORSE = rule(2, 2, [1, 2, 2, 1, 2, 1, 1, 2])


def fours(answer):
    return [tuple(answer[i:i + 4]) for i in range(1, len(answer), 4)]


class TwosAnswers(unittest.TestCase):
    def test_just_those_that_come_in_their_order(self):
        for k, m, letters in plain.some_rules(41, 6):
            for a in range(1, m + 1):
                answered = ask_last(rule(k, m, letters), twos(a))
                expected = sorted(plain.coming(k, m, letters, a, 2, 2))
                self.assertEqual(answered[0], len(expected))
                self.assertEqual(fours(answered), expected, (k, m, letters, a))

    def test_all_that_stand_in_the_grown_pictures(self):
        for k, m, letters in plain.some_rules(42, 1):
            for a in range(1, m + 1):
                listed = fours(ask_last(rule(k, m, letters), twos(a)))
                for picture in plain.pictures(k, m, letters, a, 6 - k):
                    self.assertLessEqual(plain.patches(picture, 2, 2), set(listed))

    def test_a_row_is_the_one_below_or_its_opposite(self):
        expected = [
            1, 1, 1, 1, 1, 1, 2, 2, 1, 2, 1, 2, 1, 2, 2, 1,
            2, 1, 1, 2, 2, 1, 2, 1, 2, 2, 1, 1, 2, 2, 2, 2,
        ]
        self.assertEqual(ask(MORSE, twos(1), twos(2))[1:], [[8] + expected] * 2)

    def test_below_left_below_right_above_left_above_right(self):
        told = rule(2, 4, [4, 3, 2, 1] + [2] * 4 + [3] * 4 + [4] * 4)
        self.assertEqual(ask_last(told, twos(2)), [1, 2, 2, 2, 2])
        listed = fours(ask_last(told, twos(1)))
        self.assertIn((4, 3, 2, 1), listed)
        self.assertNotIn((2, 1, 4, 3), listed)
        self.assertEqual(listed, sorted(set(listed)))

    def test_one_that_stands_after_the_first_growing_alone(self):
        told = rule(2, 3, [2, 3, 3, 2] + [2] * 4 + [2] * 4)
        answered = ask(told, twos(1), twos(2), twos(3))[1:]
        self.assertEqual(answered, [[2, 2, 2, 2, 2, 2, 3, 3, 2], [1, 2, 2, 2, 2], [1, 2, 2, 2, 2]])

    def test_ones_that_come_after_many_growings(self):
        told = rule(2, 4, [2, 2, 2, 2, 3, 3, 3, 3, 1, 4, 1, 4, 2, 1, 1, 2])
        places = [at(1, 20, 208895, 65535), at(1, 20, 208896, 65535), at(1, 20, 208895, 65536), at(1, 20, 208896, 65536)]
        answered = ask(told, twos(1), *places)
        self.assertEqual(answered[2:], [[4], [2], [3], [3]])
        self.assertIn((4, 2, 3, 3), fours(answered[1]))

    def test_before_any_rule(self):
        self.assertEqual(ask(twos(1), twos(0), twos(2)), [[1, 1, 1, 1, 1], [-1], [-1]])


class TwosRefusals(unittest.TestCase):
    def test_a_is_no_letter(self):
        for k in (2, 3):
            for m in (1, 2, 3, 4):
                for a in (0, m + 1, TOP):
                    self.assertEqual(ask_last(rule(k, m, [m] * (m * k * k)), twos(a)), [-1])
                self.assertEqual(ask_last(rule(k, m, [m] * (m * k * k)), twos(m)), [1, m, m, m, m])

    def test_after_a_refusal_all_is_as_it_was(self):
        asked = [twos(1), twos(2), counts(1, 3)]
        self.assertEqual(ask(MORSE, twos(0), twos(3), *asked)[3:], ask(MORSE, *asked)[1:])
