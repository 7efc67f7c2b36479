"""classes, and with it what paint and rule paint."""

import random
import unittest

from tests import plain
from tests.lines import ask, ask_last, at, classes, counts, mixed, paint, rule, share, window

# Letter 4 alone is painted otherwise; 3 has it in its square, 2 has 3 in its own, and 1 never comes to it.
LADDER_2 = rule(2, 4, [1] * 4 + [1, 1, 1, 3] + [1, 1, 1, 4] + [4] * 4)
LADDER_3 = rule(3, 4, [1] * 9 + [1] * 8 + [3] + [1] * 8 + [4] + [4] * 9)
THREE = rule(2, 3, [1, 2, 3, 1, 2, 2, 3, 3, 3, 1, 1, 2])


def painted_rules(seed, how_many):
    """Rules with their letters painted in few colours, some letters being made alike beforehand."""
    drawn = random.Random(seed)
    rules = []
    for _ in range(how_many):
        for k in (2, 3):
            for m in (1, 2, 3, 4):
                sorts = [drawn.randint(1, m) for _ in range(m)]
                squares = {sort: [drawn.choice(sorts) for _ in range(k * k)] for sort in sorted(set(sorts))}
                colours = {sort: drawn.choice((0, 0, 9)) for sort in squares}
                letters = []
                for sort in sorts:
                    letters += [drawn.choice([a for a in range(1, m + 1) if sorts[a - 1] == s]) for s in squares[sort]]
                rules.append(((k, m, letters), [colours[sort] for sort in sorts]))
    return rules


class ClassesAnswers(unittest.TestCase):
    def test_any_rules(self):
        seen = {}
        for (k, m, letters), paints in painted_rules(111, 40):
            expected = plain.classes(k, m, letters, paints, 3)
            answered = ask(rule(k, m, letters), paint(paints), classes())[2]
            self.assertEqual(answered, expected, (k, m, letters, paints))
            seen[k, m, answered[0]] = True
        for k in (2, 3):
            for kinds in [(1, 1), (2, 1), (2, 2), (3, 1), (3, 2), (3, 3), (4, 1), (4, 2), (4, 3), (4, 4)]:
                self.assertIn((k, *kinds), seen)

    def test_few_letters_in_squares(self):
        drawn = random.Random(112)
        seen = {}
        for i in range(3000):
            m = drawn.choice((3, 4))
            letters = []
            for _ in range(m):
                common = drawn.randint(1, m)
                letters += [common, common, common, drawn.randint(1, m)]
            paints = [drawn.choice((0, 0, 0, 1)) for _ in range(m)]
            answered = ask(rule(2, m, letters), paint(paints), classes())[2]
            self.assertEqual(answered, plain.classes(2, m, letters, paints, 3), (m, letters, paints))
            if i % 4 == 0:
                for growings in plain.apart_after(2, m, letters, paints, 4).values():
                    seen[growings] = seen.get(growings, 0) + 1
        # Each growing that tells letters apart makes a kind more, and two kinds are seen without
        # growing: so four letters that weren't told apart after two growings never are.
        self.assertEqual(set(seen), {None, 0, 1, 2})
        self.assertGreater(min(seen.values()), 5, seen)

    def test_told_a_rule_each_letter_is_painted_its_own_number(self):
        for k, m, letters in plain.some_rules(113, 2):
            self.assertEqual(ask_last(rule(k, m, letters), classes()), [m] + [1, 2, 3, 4][:m])
            self.assertEqual(ask_last(rule(k, m, [1] * (m * k * k)), classes()), [m] + [1, 2, 3, 4][:m])

    def test_all_painted_alike(self):
        for k, m, letters in plain.some_rules(114, 2):
            for number in (0, 1, 9):
                self.assertEqual(ask_last(rule(k, m, letters), paint([number] * m), classes()), [1] + [1] * m)

    def test_told_apart_without_growing(self):
        # After one growing, 1 and 2 are the same: they aren't alike for all that.
        for k in (2, 3):
            told = rule(k, 2, [1] * (2 * k * k))
            answered = ask(told, paint([1, 2]), classes(), paint([0, 9]), classes(), paint([2, 1]), classes())
            self.assertEqual(answered[2::2], [[2, 1, 2]] * 3)

    def test_told_apart_after_1_growing(self):
        answered = ask(
            rule(2, 3, [1] * 4 + [1, 1, 1, 3] + [3] * 4), paint([5, 5, 0]), classes(),
            rule(3, 3, [3] + [1] * 8 + [1] * 9 + [3] * 9), paint([5, 5, 0]), classes(),
            rule(3, 3, [1] * 9 + [1] * 4 + [3] + [1] * 4 + [3] * 9), paint([0, 0, 1]), classes(),
        )
        self.assertEqual(answered[2::3], [[3, 1, 2, 3]] * 3)

    def test_told_apart_after_2_growings(self):
        for k, told in [(2, LADDER_2), (3, LADDER_3)]:
            letters = told[4:]
            self.assertEqual(plain.apart_after(k, 4, letters, [6, 6, 6, 7], 4)[1, 2], 2)
            self.assertEqual(plain.apart_after(k, 4, letters, [6, 6, 6, 7], 4)[1, 3], 1)
            self.assertEqual(ask_last(told, paint([6, 6, 6, 7]), classes()), [4, 1, 2, 3, 4])

    def test_told_apart_by_one_place_alone(self):
        for k in (2, 3):
            for where in range(k * k):
                square = [1] * (k * k)
                square[where] = 3
                told = rule(k, 3, [1] * (k * k) + square + [3] * (k * k))
                self.assertEqual(ask_last(told, paint([4, 4, 3]), classes()), [3, 1, 2, 3])

    def test_the_same_letters_at_other_places(self):
        told = rule(2, 4, [3, 4, 3, 4, 4, 3, 3, 4] + [3] * 4 + [4] * 4)
        answered = ask(told, paint([1, 1, 2, 3]), classes(), paint([1, 1, 2, 2]), classes())
        self.assertEqual(answered[2::2], [[4, 1, 2, 3, 4], [2, 1, 1, 2, 2]])

    def test_never_told_apart(self):
        answered = ask(
            rule(2, 2, [1, 2, 2, 1, 2, 1, 1, 2]), paint([3, 3]), classes(),
            rule(2, 4, [1, 2, 3, 4, 2, 1, 4, 3, 4, 4, 1, 2, 3, 3, 2, 1]), paint([5, 5, 8, 8]), classes(),
            rule(3, 3, [1, 2, 3] * 3 + [2, 1, 3] * 3 + [3] * 9), paint([0, 0, 9]), classes(),
            rule(2, 3, [2, 3, 2, 2, 3, 2, 3, 3, 1, 1, 1, 1]), paint([1, 2, 2]), classes(),
        )
        self.assertEqual(answered[2::3], [[1, 1, 1], [2, 1, 1, 2, 2], [2, 1, 1, 2], [3, 1, 2, 3]])

    def test_numbered_by_the_lowest_letters(self):
        told = rule(2, 4, [1] * 4 + [2] * 4 + [3] * 4 + [4] * 4)
        for paints, expected in [
            ([9, 0, 9, 0], [2, 1, 2, 1, 2]), ([4, 3, 2, 1], [4, 1, 2, 3, 4]), ([5, 7, 7, 5], [2, 1, 2, 2, 1]),
            ([5, 7, 0, 7], [3, 1, 2, 3, 2]), ([8, 8, 1, 8], [2, 1, 1, 2, 1]), ([8, 1, 1, 1], [2, 1, 2, 2, 2]),
        ]:
            self.assertEqual(ask_last(told, paint(paints), classes()), expected)

    def test_before_any_rule(self):
        self.assertEqual(ask(classes(), paint([0]), classes()), [[1, 1], [0], [1, 1]])


class BeforeAndBehindPaint(unittest.TestCase):
    def test_paint_and_paint_again(self):
        answered = ask(
            THREE, classes(), paint([2, 2, 2]), classes(), paint([2, 2, 9]), classes(), paint([0, 0, 0]), classes(),
            paint([3, 1, 2]), classes(),
        )
        self.assertEqual(answered[1::2], [[3, 1, 2, 3], [1, 1, 1, 1], [3, 1, 2, 3], [1, 1, 1, 1], [3, 1, 2, 3]])

    def test_behind_a_new_rule(self):
        again = rule(3, 3, [1, 2, 3] * 9)
        answered = ask(
            THREE, paint([2, 2, 2]), classes(), THREE, classes(), paint([2, 2, 2]), again, classes(),
            paint([2, 2, 2]), classes(), rule(2, 4, [1, 2, 3, 4] * 4), classes(), rule(2, 2, [1] * 8), classes(),
        )
        self.assertEqual([answer for answer in answered if len(answer) > 1], [
            [1, 1, 1, 1], [3, 1, 2, 3], [3, 1, 2, 3], [1, 1, 1, 1], [4, 1, 2, 3, 4], [2, 1, 2],
        ])

    def test_after_refusals_what_is_painted_stays(self):
        wrong = [
            paint([1, 2, 10]), paint([1, 2]), paint([1, 2, 3, 4]), paint([]), rule(2, 3, [4] * 12), rule(2, 3, [1] * 11),
            rule(4, 3, [1] * 48), rule(2, 5, [1] * 20), at(4, 0, 0, 0), counts(0, 0), share(4), window(1, 1, 0, 0),
        ]
        for call in wrong:
            answered = ask(THREE, paint([6, 6, 6]), call, classes())
            self.assertLess(answered[2][0], 0)
            self.assertEqual(answered[3], [1, 1, 1, 1])

    def test_calls_that_paint_nothing(self):
        answered = ask(THREE, paint([6, 6, 6]), at(1, 1, 0, 0), counts(1, 1), mixed(), share(1), window(1, 2, 0, 0), classes())
        self.assertEqual(answered[-1], [1, 1, 1, 1])
