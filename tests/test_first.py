"""Point 3: first, with its refusals."""

import random
import unittest

from tests import plain
from tests.lines import TOP, ask, ask_last, at, classes, ever, first, paint, rule, twos

SIZES = [(w, h) for w in (1, 2, 3) for h in (1, 2, 3)]
MORSE = rule(2, 2, [1, 2, 2, 1, 2, 1, 1, 2])
CARPET = rule(3, 2, [1, 1, 1, 1, 2, 1, 1, 1, 1] + [2] * 9)
CHAIN = rule(2, 4, [2] * 4 + [3] * 4 + [4] * 4 + [4] * 4)
# The rules below make squares of one letter only until late, so that edges of patches come late.
SLOW_2 = (2, 3, [3, 2, 2, 3, 3, 3, 3, 3, 1, 1, 1, 1])
SLOW_3 = (3, 3, [3] * 9 + [2] * 9 + [2, 2, 2, 1, 1, 1, 2, 1, 1])


def brute(k, m, letters, a, w, h):
    """Of every patch that stands there after 0 to 4 growings: what it is answered."""
    known = {}
    for n, picture in enumerate(plain.pictures(k, m, letters, a, 4)):
        for y in range(k ** n - h + 1):
            for x in range(k ** n - w + 1):
                patch = tuple(picture[x + i, y + j] for j in range(h) for i in range(w))
                known.setdefault(patch, [n, x, y])
    return known


class FirstAnswers(unittest.TestCase):
    def test_all_patches_of_the_first_growings(self):
        drawn = random.Random(81)
        seen = dict.fromkeys(range(5), 0)
        for k, m, letters in plain.some_rules(82, 2):
            for w, h in SIZES:
                a = drawn.randint(1, m)
                known = brute(k, m, letters, a, w, h)
                asked = drawn.sample(sorted(known), min(12, len(known)))
                answered = ask(rule(k, m, letters), *[first(a, w, h, patch) for patch in asked])[1:]
                self.assertEqual(answered, [known[patch] for patch in asked], (k, m, letters, a, w, h))
                for patch in asked:
                    seen[known[patch][0]] += 1
        self.assertGreater(min(seen.values()), 10, seen)

    def test_any_patches(self):
        drawn = random.Random(83)
        seen = {-3: 0, -7: 0}
        for k, m, letters in plain.some_rules(84, 1) + [SLOW_2, SLOW_3]:
            for w, h in SIZES:
                a = drawn.randint(1, m)
                coming = plain.coming(k, m, letters, a, w, h)
                late = sorted(coming, key=lambda patch: (-coming[patch], patch))[:2]
                asked = late + [tuple(drawn.randint(1, m) for _ in range(w * h)) for _ in range(2)]
                expected = [plain.first(k, m, letters, a, w, h, patch) for patch in asked]
                answered = ask(rule(k, m, letters), *[first(a, w, h, patch) for patch in asked])[1:]
                self.assertEqual(answered, expected, (k, m, letters, a, w, h, asked))
                for answer in answered:
                    seen[answer[0]] = seen.get(answer[0], 0) + 1
        self.assertGreater(min(seen[-3], seen[-7]), 50, seen)

    def test_never_just_if_ever_says_so(self):
        drawn = random.Random(85)
        for k, m, letters in plain.some_rules(86, 3):
            for w, h in SIZES:
                a = drawn.randint(1, m)
                patch = [drawn.randint(1, m) for _ in range(w * h)]
                told, found, comes = ask(rule(k, m, letters), first(a, w, h, patch), ever(a, w, h, patch))
                self.assertEqual(found == [-3], comes == [0], (k, m, letters, a, w, h, patch))

    def test_0_growings(self):
        for m in (1, 2, 3, 4):
            for a in range(1, m + 1):
                self.assertEqual(ask_last(rule(3, m, [1] * (9 * m)), first(a, 1, 1, [a])), [0, 0, 0])

    def test_one_letter_after_0_to_3_growings(self):
        answered = ask(CHAIN, *[first(1, 1, 1, [b]) for b in (1, 2, 3, 4)])
        self.assertEqual(answered[1:], [[0, 0, 0], [1, 0, 0], [2, 0, 0], [3, 0, 0]])

    def test_its_own_square_after_1_growing(self):
        answered = ask(MORSE, first(1, 2, 2, [1, 2, 2, 1]), first(2, 2, 2, [2, 1, 1, 2]))
        self.assertEqual(answered[1:], [[1, 0, 0], [1, 0, 0]])
        told = rule(3, 3, [1, 2, 3, 2, 3, 1, 3, 3, 1] + [2] * 9 + [3] * 9)
        answered = ask(told, first(1, 3, 3, [1, 2, 3, 2, 3, 1, 3, 3, 1]), first(1, 2, 2, [3, 1, 3, 1]))
        self.assertEqual(answered[1:], [[1, 0, 0], [1, 1, 1]])

    def test_4_growings_and_5_and_more(self):
        for k, m, letters, a, w, h, patch, growings in [
            (2, 2, [2, 2, 1, 2, 1, 1, 1, 1], 2, 2, 2, (2, 1, 1, 2), 4),
            (2, 2, [2, 2, 1, 2, 1, 1, 1, 1], 2, 3, 3, (1, 2, 2, 1, 1, 2, 2, 1, 1), 5),
            (*SLOW_2, 3, 2, 1, (1, 2), 4),
            (*SLOW_2, 1, 2, 2, (1, 2, 3, 1), 5),
            (*SLOW_2, 1, 2, 2, (3, 3, 1, 3), 6),
            (*SLOW_3, 3, 2, 1, (3, 2), 4),
            (*SLOW_3, 3, 2, 2, (1, 2, 1, 2), 5),
            (*SLOW_3, 3, 3, 3, (2, 2, 2, 2, 2, 2, 3, 2, 2), 6),
            (2, 4, [2, 2, 2, 2, 3, 3, 3, 3, 1, 4, 1, 4, 2, 1, 1, 2], 1, 2, 2, (4, 2, 3, 3), 20),
            (2, 4, [3, 4, 3, 4, 4, 1, 1, 1, 2, 2, 2, 2, 3, 3, 3, 3], 2, 2, 2, (3, 3, 4, 2), 22),
            (3, 3, [2] * 9 + [3] * 9 + [2, 3, 1, 2, 1, 1, 2, 2, 1], 1, 2, 2, (2, 2, 1, 3), 12),
        ]:
            self.assertEqual(plain.coming(k, m, letters, a, w, h)[patch], growings)
            answered = ask(rule(k, m, letters), first(a, w, h, patch), ever(a, w, h, patch))[1:]
            self.assertEqual(answered[1], [1])
            if growings == 4:
                self.assertEqual(answered[0], brute(k, m, letters, a, w, h)[patch])
                self.assertEqual(answered[0][0], 4)
            else:
                self.assertEqual(answered[0], [-7])

    def test_the_last_places(self):
        for k, w, square in [(2, 2, [4, 2, 3, 3]), (3, 3, [4, 2, 3, 3, 4, 2, 2, 3, 3])]:
            ones = [1] * (k * k - 1)
            told = rule(k, 4, ones + [2] + ones + [3] + ones + [4] + square)
            answered = ask(told, *[first(1, 1, 1, [b]) for b in (2, 3, 4)], first(1, w, w, square), first(4, w, w, square))
            lasts = [[n, k ** n - 1, k ** n - 1] for n in (1, 2, 3)]
            self.assertEqual(answered[1:], lasts + [[4, k ** 4 - w, k ** 4 - w], [1, 0, 0]])

    def test_the_lowest_row_of_several(self):
        told = rule(3, 2, [1, 1, 2, 2, 1, 1, 1, 1, 1] + [1] * 9)
        self.assertEqual(ask_last(told, first(1, 1, 1, [2])), [1, 2, 0])
        told = rule(2, 2, [1, 1, 2, 1, 1, 2, 1, 1])
        answered = ask(told, first(1, 1, 1, [2]), first(1, 2, 1, [1, 2]), first(1, 2, 1, [2, 1]))
        self.assertEqual(answered[1:], [[1, 0, 1], [2, 1, 1], [1, 0, 1]])

    def test_in_this_row_the_leftmost(self):
        told = rule(3, 2, [1, 2, 2, 2, 1, 1, 1, 1, 1] + [1] * 9)
        answered = ask(told, first(1, 1, 1, [2]), first(1, 1, 2, [2, 1]), first(1, 2, 1, [2, 1]), first(1, 2, 2, [1] * 4))
        self.assertEqual(answered[1:], [[1, 1, 0], [1, 1, 0], [1, 0, 1], [1, 1, 1]])

    def test_fewer_growings_before_a_lower_place(self):
        told = rule(2, 2, [2, 1, 1, 2, 1, 1, 1, 1])
        answered = ask(told, first(1, 2, 1, [1, 2]), first(1, 1, 1, [1]), first(1, 1, 2, [1, 2]))
        self.assertEqual(answered[1:], [[1, 0, 1], [0, 0, 0], [1, 1, 0]])

    def test_the_place_is_that_of_the_lowest_left_letter(self):
        told = rule(3, 3, [1, 1, 1, 1, 2, 3, 1, 3, 2] + [1] * 18)
        answered = ask(told, first(1, 2, 2, [2, 3, 3, 2]), first(1, 2, 2, [1, 1, 1, 2]), first(1, 1, 2, [3, 2]))
        self.assertEqual(answered[1:], [[1, 1, 1], [1, 0, 0], [1, 2, 1]])

    def test_wide_and_high_are_not_mixed_up(self):
        told = rule(3, 3, [1, 1, 1, 2, 2, 2, 3, 3, 3] + [2] * 9 + [3] * 9)
        answered = ask(
            told, first(1, 1, 3, [1, 2, 3]), first(1, 3, 1, [1, 2, 3]), first(1, 2, 3, [1, 1, 2, 2, 3, 3]),
            first(1, 3, 2, [1, 1, 2, 2, 3, 3]), first(1, 3, 2, [2, 2, 2, 3, 3, 3]),
        )
        self.assertEqual(answered[1:], [[1, 0, 0], [-3], [1, 0, 0], [-3], [1, 0, 1]])

    def test_a_patch_wider_than_the_picture_waits(self):
        for w, h in SIZES:
            twice, thrice = ask(rule(2, 1, [1] * 4), first(1, w, h, [1] * (w * h)), rule(3, 1, [1] * 9),
                                first(1, w, h, [1] * (w * h)))[1::2]
            wide = max(w, h)
            self.assertEqual(twice, [{1: 0, 2: 1, 3: 2}[wide], 0, 0])
            self.assertEqual(thrice, [{1: 0, 2: 1, 3: 1}[wide], 0, 0])

    def test_carpet_and_morse(self):
        answered = ask(
            CARPET, first(1, 3, 3, [2] * 9), first(2, 3, 3, [2] * 9), first(1, 3, 3, [1] * 9), first(2, 1, 1, [1]),
            first(1, 2, 1, [2, 2]), MORSE, first(1, 3, 1, [1, 1, 1]), first(1, 2, 1, [1, 1]), first(2, 2, 1, [1, 1]),
        )
        self.assertEqual(answered, [[2], [2, 3, 3], [1, 0, 0], [-3], [-3], [2, 3, 3], [2], [-3], [2, 1, 1], [2, 1, 0]])

    def test_before_any_rule(self):
        answered = ask(*[first(1, w, h, [1] * (w * h)) for w, h in SIZES], first(2, 1, 1, [1]), first(1, 1, 1, [2]))
        late = [[0, 0, 0], [1, 0, 0], [2, 0, 0]]
        self.assertEqual(answered, [late[max(w, h) - 1] for w, h in SIZES] + [[-1], [-1]])


class FirstRefusals(unittest.TestCase):
    def refused(self, a, w, h, letters, number=-1):
        told = [MORSE, paint([6, 6])]
        asked = [first(1, 2, 1, [1, 1]), twos(1), at(1, 1, 1, 0), classes()]
        answered = ask(*told, first(a, w, h, letters), *asked)
        self.assertEqual(answered[2], [number], (a, w, h, letters))
        self.assertEqual(answered[3:], ask(*told, *asked)[2:])

    def test_a_is_no_letter(self):
        for a in (0, 3, 4, TOP):
            self.refused(a, 1, 1, [1])
        for m in (1, 2, 3, 4):
            self.assertEqual(ask_last(rule(3, m, [1] * (9 * m)), first(m + 1, 1, 1, [1])), [-1])
            self.assertEqual(ask_last(rule(2, m, [1] * (4 * m)), first(m + 1, 1, 1, [1])), [-1])

    def test_w(self):
        self.refused(1, 0, 1, [])
        self.refused(1, 0, 0, [])
        self.refused(1, 4, 1, [1, 2, 2, 1])
        self.refused(1, 4, 3, [1] * 12)
        self.refused(1, TOP, 1, [1])

    def test_h(self):
        self.refused(1, 1, 0, [])
        self.refused(1, 1, 4, [1, 2, 2, 1])
        self.refused(1, 3, 4, [1] * 12)
        self.refused(1, 1, TOP, [1])

    def test_how_many_letters(self):
        for w, h in SIZES:
            self.refused(1, w, h, [])
            self.refused(1, w, h, [1] * (w * h - 1))
            self.refused(1, w, h, [1] * (w * h + 1))
            self.refused(1, w, h, [1] * 60)

    def test_a_letter_of_the_patch(self):
        for w, h in SIZES:
            for where in (0, w * h // 2, w * h - 1):
                for wrong in (0, 3, TOP):
                    letters = [1] * (w * h)
                    letters[where] = wrong
                    self.refused(1, w, h, letters)

    def test_it_never_comes(self):
        self.refused(1, 3, 1, [1, 1, 1], -3)
        self.refused(1, 1, 3, [2, 2, 2], -3)
        self.refused(2, 3, 3, [1] * 9, -3)
        self.refused(1, 2, 2, [1, 1, 1, 2], -3)
        self.assertEqual(ask(CHAIN, *[first(4, 1, 1, [b]) for b in (1, 2, 3, 4)])[1:], [[-3]] * 3 + [[0, 0, 0]])

    def test_after_the_refusal_that_it_comes_late_all_is_as_it_was(self):
        k, m, letters = SLOW_2
        told = [rule(k, m, letters), paint([1, 1, 1])]
        asked = [first(3, 2, 1, [1, 2]), classes(), at(1, 3, 5, 5)]
        answered = ask(*told, first(1, 2, 2, [1, 2, 3, 1]), *asked)
        self.assertEqual(answered[2], [-7])
        self.assertEqual(answered[3:], ask(*told, *asked)[2:])

    def test_the_refusal_told_first(self):
        # Without the wrong a, w or letter, these never come, or first after more than four growings.
        self.refused(3, 3, 1, [1, 1, 1])
        self.refused(0, 1, 3, [2, 2, 2])
        self.refused(1, 3, 1, [1, 1, 3])
        self.refused(1, 4, 1, [1, 1, 1, 1])
        self.refused(1, 1, 4, [1, 1, 1, 1])
        self.refused(1, 3, 1, [1, 1, 1, 1])
        k, m, letters = SLOW_2
        answered = ask(rule(k, m, letters), first(4, 2, 2, [1, 2, 3, 1]), first(1, 2, 3, [1, 2, 3, 1]),
                       first(1, 2, 2, [1, 2, 3, 4]))
        self.assertEqual(answered[1:], [[-1]] * 3)

    def test_all_at_once(self):
        self.refused(TOP, TOP, TOP, [TOP] * 60)
