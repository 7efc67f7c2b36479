"""Point 3: ever, with its refusals."""

import random
import unittest

from tests import plain
from tests.lines import TOP, ask, ask_last, at, ever, rule, twos

SIZES = [(w, h) for w in (1, 2, 3) for h in (1, 2, 3)]
CARPET = rule(3, 2, [1, 1, 1, 1, 2, 1, 1, 1, 1] + [2] * 9)
MORSE = rule(2, 2, [1, 2, 2, 1, 2, 1, 1, 2])
FADING = rule(2, 4, [2, 2, 2, 2, 3, 3, 3, 3, 3, 3, 3, 4, 4, 4, 4, 4])


def asked_patches(drawn, m, w, h, known):
    """Some that come, the same with one letter changed, and some of any letters."""
    chosen = drawn.sample(known, min(4, len(known)))
    for patch in list(chosen):
        changed = list(patch)
        changed[drawn.randrange(w * h)] = drawn.randint(1, m)
        chosen.append(tuple(changed))
    chosen.append(tuple(drawn.randint(1, m) for _ in range(w * h)))
    return chosen


class EverAnswers(unittest.TestCase):
    def test_just_those_that_come(self):
        drawn = random.Random(51)
        seen = {0: 0, 1: 0}
        for k, m, letters in plain.some_rules(52, 3):
            for w, h in SIZES:
                a = drawn.randint(1, m)
                first = plain.coming(k, m, letters, a, w, h)
                asked = asked_patches(drawn, m, w, h, sorted(first))
                expected = [[1 if patch in first else 0] for patch in asked]
                answered = ask(rule(k, m, letters), *[ever(a, w, h, patch) for patch in asked])[1:]
                self.assertEqual(answered, expected, (k, m, letters, a, w, h, asked))
                for answer in expected:
                    seen[answer[0]] += 1
        self.assertGreater(min(seen.values()), 100)

    def test_all_small_patches_of_two_letters(self):
        for k, m, letters in plain.some_rules(53, 2):
            if m != 2:
                continue
            for w, h in [(1, 1), (2, 1), (1, 2), (3, 1), (1, 3), (2, 2)]:
                first = plain.coming(k, m, letters, 1, w, h)
                asked = [tuple(1 + (i >> j & 1) for j in range(w * h)) for i in range(2 ** (w * h))]
                answered = ask(rule(k, m, letters), *[ever(1, w, h, patch) for patch in asked])[1:]
                self.assertEqual(answered, [[int(patch in first)] for patch in asked])

    def test_what_stands_in_the_grown_pictures_comes(self):
        drawn = random.Random(54)
        for k, m, letters in plain.some_rules(55, 1):
            for a in range(1, m + 1):
                for picture in plain.pictures(k, m, letters, a, 6 - k):
                    for w, h in SIZES:
                        for patch in sorted(plain.patches(picture, w, h))[:40]:
                            if drawn.random() < 0.1:
                                self.assertEqual(ask_last(rule(k, m, letters), ever(a, w, h, patch)), [1])

    def test_itself_without_growing(self):
        told = rule(2, 3, [2] * 4 + [3] * 4 + [3] * 4)
        answered = ask(told, *[ever(a, 1, 1, [b]) for a in (1, 2, 3) for b in (1, 2, 3)])
        self.assertEqual(answered[1:], [[1], [1], [1], [0], [1], [1], [0], [0], [1]])

    def test_without_growing_it_is_one_place_alone(self):
        told = rule(2, 2, [2] * 8)
        answered = ask(told, ever(1, 1, 1, [1]), ever(1, 2, 1, [1, 1]), ever(1, 1, 2, [1, 2]), ever(1, 2, 1, [2, 2]))
        self.assertEqual(answered[1:], [[1], [0], [0], [1]])

    def test_after_the_first_growing_alone(self):
        told = rule(3, 3, [2, 3, 3, 3, 3, 2, 3, 2, 3] + [2] * 18)
        answered = ask(
            told, ever(1, 3, 3, [2, 3, 3, 3, 3, 2, 3, 2, 3]), ever(2, 3, 3, [2, 3, 3, 3, 3, 2, 3, 2, 3]),
            ever(1, 3, 3, [3, 2, 3, 3, 3, 2, 2, 3, 3]), ever(1, 1, 3, [2, 3, 3]), ever(1, 3, 1, [3, 2, 3]),
            ever(1, 3, 1, [2, 3, 2]), ever(1, 3, 3, [2] * 9),
        )
        self.assertEqual(answered[1:], [[1], [0], [0], [1], [1], [0], [1]])

    def test_carpet(self):
        answered = ask(
            CARPET, ever(1, 3, 2, [1] * 6), ever(1, 2, 3, [1] * 6), ever(1, 3, 3, [1] * 9), ever(1, 3, 3, [2] * 9),
            ever(1, 1, 1, [2]), ever(2, 1, 1, [1]), ever(2, 3, 3, [2] * 9), ever(1, 2, 2, [1, 2, 2, 1]),
        )
        self.assertEqual(answered[1:], [[1], [1], [0], [1], [1], [0], [1], [0]])

    def test_never_the_same_three_times_in_a_row(self):
        answered = ask(
            MORSE, ever(1, 3, 1, [1, 1, 1]), ever(1, 1, 3, [2, 2, 2]), ever(1, 3, 1, [1, 1, 2]),
            ever(1, 3, 3, [1, 1, 2, 1, 1, 2, 2, 2, 1]), ever(1, 3, 3, [1, 1, 2, 1, 1, 2, 2, 1, 1]),
        )
        self.assertEqual(answered[1:], [[0], [0], [1], [1], [0]])

    def test_letters_that_a_letter_never_grows_into(self):
        answered = ask(FADING, *[ever(a, 1, 1, [b]) for a in (1, 2, 3, 4) for b in (1, 2, 3, 4)])
        self.assertEqual(answered[1:], [
            [1], [1], [1], [1], [0], [1], [1], [1], [0], [0], [1], [1], [0], [0], [0], [1],
        ])

    def test_wide_and_high_are_not_mixed_up(self):
        told = rule(3, 3, [1, 1, 1, 2, 2, 2, 3, 3, 3] + [2] * 9 + [3] * 9)
        answered = ask(
            told, ever(1, 1, 3, [1, 2, 3]), ever(1, 3, 1, [1, 2, 3]), ever(1, 1, 3, [3, 2, 1]),
            ever(1, 2, 3, [1, 1, 2, 2, 3, 3]), ever(1, 3, 2, [1, 1, 2, 2, 3, 3]), ever(1, 3, 2, [2, 2, 2, 3, 3, 3]),
        )
        self.assertEqual(answered[1:], [[1], [0], [0], [1], [0], [1]])

    def test_before_any_rule(self):
        answered = ask(*[ever(1, w, h, [1] * (w * h)) for w, h in SIZES], ever(2, 1, 1, [1]), ever(1, 1, 1, [2]))
        self.assertEqual(answered, [[1]] * 9 + [[-1]] * 2)


class EverAfterManyGrowings(unittest.TestCase):
    def comes_late(self, k, m, letters, a, patch, n, x, y):
        """It stands at x, y after n growings, and nowhere after fewer."""
        places = [at(a, n, x, y), at(a, n, x + 1, y), at(a, n, x, y + 1), at(a, n, x + 1, y + 1)]
        answered = ask(rule(k, m, letters), ever(a, 2, 2, patch), *places)
        self.assertEqual(answered[1:], [[1]] + [[letter] for letter in patch])
        self.assertEqual(plain.coming(k, m, letters, a, 2, 2)[patch], n)

    def test_11_growings(self):
        self.comes_late(2, 3, [2, 2, 2, 2, 1, 3, 3, 1, 1, 1, 1, 1], 3, (2, 1, 2, 2), 11, 63, 255)

    def test_12_growings(self):
        letters = [2] * 9 + [3] * 9 + [2, 3, 1, 2, 1, 1, 2, 2, 1]
        self.comes_late(3, 3, letters, 1, (2, 2, 1, 3), 12, 25757, 59048)

    def test_20_growings(self):
        letters = [2, 2, 2, 2, 3, 3, 3, 3, 1, 4, 1, 4, 2, 1, 1, 2]
        self.comes_late(2, 4, letters, 1, (4, 2, 3, 3), 20, 208895, 65535)
        letters = [3] * 9 + [1] * 9 + [2, 4, 4, 4, 2, 2, 4, 4, 2] + [2] * 9
        self.comes_late(3, 4, letters, 4, (3, 2, 2, 2), 20, 45703925, 43046720)

    def test_22_growings(self):
        letters = [3, 4, 3, 4, 4, 1, 1, 1, 2, 2, 2, 2, 3, 3, 3, 3]
        self.assertEqual(plain.coming(2, 4, letters, 2, 2, 2)[3, 3, 4, 2], 22)
        self.assertEqual(ask_last(rule(2, 4, letters), ever(2, 2, 2, [3, 3, 4, 2])), [1])

    def test_late_patches_of_every_size(self):
        letters = [2, 2, 2, 2, 3, 3, 3, 3, 1, 4, 1, 4, 2, 1, 1, 2]
        for w, h in SIZES:
            first = plain.coming(2, 4, letters, 1, w, h)
            late = sorted(sorted(first), key=lambda patch: first[patch])[-3:]
            answered = ask(rule(2, 4, letters), *[ever(1, w, h, patch) for patch in late])[1:]
            self.assertEqual(answered, [[1]] * len(late))


class EverRefusals(unittest.TestCase):
    def refused(self, a, w, h, letters):
        self.assertEqual(ask_last(MORSE, ever(a, w, h, letters)), [-1])
        asked = [ever(1, 2, 1, [1, 1]), twos(1), at(1, 1, 1, 0)]
        self.assertEqual(ask(MORSE, ever(a, w, h, letters), *asked)[2:], ask(MORSE, *asked)[1:])

    def test_a_is_no_letter(self):
        for a in (0, 3, 4, TOP):
            self.refused(a, 1, 1, [1])
        for m in (1, 2, 3, 4):
            self.assertEqual(ask_last(rule(3, m, [1] * (9 * m)), ever(m + 1, 1, 1, [1])), [-1])

    def test_w(self):
        self.refused(1, 0, 1, [])
        self.refused(1, 0, 0, [])
        self.refused(1, 4, 1, [1] * 4)
        self.refused(1, 4, 3, [1] * 12)
        self.refused(1, TOP, 1, [1])

    def test_h(self):
        self.refused(1, 1, 0, [])
        self.refused(1, 1, 4, [1] * 4)
        self.refused(1, 3, 4, [1] * 12)
        self.refused(1, 1, TOP, [1])

    def test_how_many_letters(self):
        for w, h in SIZES:
            self.refused(1, w, h, [])
            self.refused(1, w, h, [1] * (w * h - 1))
            self.refused(1, w, h, [1] * (w * h + 1))
            self.refused(1, w, h, [1] * 60)

    def test_a_letter_of_the_patch(self):
        for w, h in SIZES:
            for where in (0, w * h // 2, w * h - 1):
                for wrong in (0, 3, TOP):
                    letters = [1] * (w * h)
                    letters[where] = wrong
                    self.refused(1, w, h, letters)

    def test_all_at_once(self):
        self.refused(TOP, TOP, TOP, [TOP] * 60)
