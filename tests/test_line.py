"""The interface: a line of calls in one list, its answers in another."""

import random
import unittest

from growntiles.letters import answers
from tests import model, plain
from tests.lines import (
    TOP, ask, at, classes, counts, ever, first, line_of, mixed, paint, rule, share, split, twos, window,
)

# Few of them, so that what the model works out for one is of use in many lines.
RULES = plain.some_rules(60, 1) + [
    (2, 2, [1, 2, 2, 1, 2, 1, 1, 2]), (2, 3, [3, 2, 2, 3, 3, 3, 3, 3, 1, 1, 1, 1]),
    (2, 4, [2] * 4 + [3] * 4 + [4] * 4 + [1, 2, 1, 1]), (3, 2, [1, 1, 1, 1, 2, 1, 1, 1, 1] + [2] * 9),
]
WRONG_RULES = [(2, 2, [1] * 7), (3, 1, [2] * 9), (4, 1, [1] * 16), (2, 0, []), (2, 5, [1] * 20), (3, TOP, [TOP] * 60)]


def a_patch(drawn, call):
    a, w, h = drawn.randint(1, 3), drawn.randint(1, 3), drawn.randint(1, 3)
    size = w * h
    if drawn.random() < 0.1:
        a, w, h, size = drawn.randint(0, 5), drawn.randint(0, 4), drawn.randint(0, 4), drawn.randint(0, 10)
    return call(a, w, h, [drawn.choice((1, 1, 1, 2, 2, 3)) for _ in range(size)])


def a_place(drawn, call, n):
    wide = drawn.choice((2, 3)) ** min(n, 20)
    x, y = [drawn.choice((0, drawn.randrange(wide), max(wide - 4, 0), max(wide - 3, 0), wide - 1, TOP)) for _ in "xy"]
    return call(drawn.randint(0, 4), n, x, y)


def a_call(drawn, number):
    """One of these calls, right or wrong."""
    a = drawn.randint(0, 4)
    return (
        lambda: rule(*drawn.choice(WRONG_RULES if drawn.random() < 0.3 else RULES)),
        lambda: paint([drawn.choice((0, 9, 9, 10) if drawn.random() < 0.1 else (0, 9)) for _ in range(drawn.randint(1, 4))]),
        lambda: a_place(drawn, at, drawn.choice((0, 1, 2, 3, 20, 21))),
        lambda: counts(a, drawn.choice((0, 1, 2, 20, 21, 60, 61))),
        lambda: twos(a),
        lambda: a_patch(drawn, ever),
        lambda: a_patch(drawn, first),
        mixed,
        lambda: share(a),
        classes,
        lambda: a_place(drawn, window, drawn.choice((0, 1, 2, 3, 20, 21))),
    )[number]()


def some_calls(seed, how_many):
    """Calls of every number, right and wrong ones, in any order."""
    drawn = random.Random(seed)
    return [a_call(drawn, drawn.randrange(11)) for _ in range(how_many)]


class ALine(unittest.TestCase):
    def test_the_numbers_as_they_stand(self):
        line = [0, 2, 2, 8, 1, 2, 2, 2, 2, 2, 2, 2, 3, 1, 2, 4, 2, 2, 1, 1, 1, 0, 5, 1, 2, 1, 2, 1, 2, 1, 2, 7, 7, 3, 0, 0]
        self.assertEqual(answers(line), [1, 2, 2, 1, 15, 5, 1, 2, 2, 2, 2, 1, 2, 1, 1, 1, 0, 1, -1])

    def test_the_numbers_of_the_later_calls_as_they_stand(self):
        line = [7, 8, 1, 9, 0, 2, 2, 8, 1, 2, 2, 1, 2, 1, 1, 2, 6, 1, 2, 1, 2, 1, 1, 7, 8, 2, 9, 10, 1, 2, 0, 0, 1, 2, 4, 4, 9]
        self.assertEqual(answers(line), [
            1, 0, 2, 1, 1, 2, 1, 1, 1, 2, 3, 2, 1, 1, 1, 1, 2, 1, 2, 3, 2, 1, 2,
            16, 1, 2, 2, 1, 2, 1, 1, 2, 2, 1, 1, 2, 1, 2, 2, 1, 1, 0, 3, 1, 1, 1,
        ])

    def test_one_call(self):
        self.assertEqual(answers([2, 1, 0, 0, 0]), [1, 1])
        self.assertEqual(answers([1, 0]), [1, -1])
        self.assertEqual(answers([4, 1]), [5, 1, 1, 1, 1, 1])
        self.assertEqual(answers([6, 1, 1, 1, 1, 1]), [3, 0, 0, 0])
        self.assertEqual(answers([7]), [1, 0])
        self.assertEqual(answers([8, 1]), [2, 1, 1])
        self.assertEqual(answers([9]), [2, 1, 1])
        self.assertEqual(answers([10, 1, 2, 0, 0]), [16] + [1] * 16)

    def test_each_call_is_answered_as_many_numbers_as_told(self):
        told = rule(3, 3, [1, 2, 3] * 9)
        answered = split(answers(line_of([
            told, counts(1, 2), at(1, 1, 0, 0), twos(1), ever(1, 1, 1, [2]), paint([1, 2, 3]),
            first(1, 1, 1, [2]), mixed(), share(2), classes(), window(1, 2, 0, 0),
        ])))
        self.assertEqual([len(answer) for answer in answered], [1, 3, 1, 1 + 4 * answered[3][0], 1, 1, 3, 1, 2, 4, 16])

    def test_a_refusal_is_its_number_alone(self):
        line = line_of([rule(1, 1, [1]), paint([10]), at(0, 0, 0, 0), at(1, 0, 1, 0), counts(0, 0), twos(0), ever(1, 1, 1, [])])
        self.assertEqual(answers(line), [1, -1, 1, -1, 1, -1, 1, -3, 1, -1, 1, -1, 1, -1])
        line = line_of([
            rule(2, 2, [2] * 8), first(1, 1, 1, []), first(2, 1, 1, [1]), mixed(), share(0), share(1),
            window(0, 2, 0, 0), window(1, 1, 0, 0),
        ])
        self.assertEqual(answers(line), [1, 2, 1, -1, 1, -3, 1, -3, 1, -1, 1, -3, 1, -1, 1, -3])

    def test_rows_without_numbers_and_long_rows_are_read_to_their_end(self):
        answered = ask(
            rule(2, 1, []), at(1, 0, 0, 0), paint([]), at(1, 0, 0, 0), ever(1, 1, 1, []), at(1, 0, 0, 0),
            rule(2, 1, [1] * 60), at(1, 0, 0, 0), paint([1] * 12), at(1, 0, 0, 0), ever(1, 1, 1, [1] * 60), at(1, 0, 0, 0),
            first(1, 1, 1, []), at(1, 0, 0, 0), first(1, 1, 1, [1] * 60), at(1, 0, 0, 0),
        )
        self.assertEqual(answered, [[-1], [1]] * 8)

    def test_40_calls(self):
        calls = some_calls(61, 40)
        self.assertEqual(len(ask(*calls)), 40)
        self.assertEqual(len(ask(*[rule(3, 4, [1, 2, 3, 4] * 9), *[twos(1)] * 39])), 40)

    def test_several_rules_in_one_line(self):
        told = plain.some_rules(62, 1)
        calls = []
        expected = []
        for k, m, letters in told:
            asked = [counts(1, 3), twos(m), ever(1, 2, 1, [m, m]), at(m, 2, k, 1)]
            calls += [rule(k, m, letters)] + asked
            expected += ask(rule(k, m, letters), *asked)
        self.assertEqual(ask(*calls), expected)

    def test_calls_that_tell_nothing_change_nothing(self):
        told = rule(2, 3, [1, 2, 3, 1, 2, 2, 3, 3, 3, 1, 1, 2])
        asked = [
            at(1, 3, 5, 6), counts(2, 4), twos(3), ever(1, 3, 3, [1] * 9), first(1, 2, 2, [1, 2, 3, 1]), mixed(),
            share(2), classes(), window(3, 3, 1, 2),
        ]
        once = ask(told, *asked)
        self.assertEqual(ask(told, *asked, *reversed(asked)), once + once[:0:-1])


class WholeLines(unittest.TestCase):
    def test_any_calls(self):
        seen = {}
        for seed in range(200, 300):
            calls = some_calls(seed, 40 if seed % 2 == 0 else random.Random(seed).randint(1, 39))
            expected = model.answered(calls)
            self.assertEqual(ask(*calls), expected, calls)
            for call, answer in zip(calls, expected):
                refusal = answer[0] if answer[0] < 0 else 0
                seen[call[0], refusal] = seen.get((call[0], refusal), 0) + 1
        told = [
            (0, 0), (0, -1), (1, 0), (1, -1), (2, 0), (2, -1), (2, -3), (3, 0), (3, -1), (4, 0), (4, -1), (5, 0), (5, -1),
            (6, 0), (6, -1), (6, -3), (6, -7), (7, 0), (7, -3), (8, 0), (8, -1), (8, -3), (9, 0),
            (10, 0), (10, -1), (10, -3),
        ]
        self.assertEqual(sorted(seen), sorted(told))

    def test_40_calls_with_all_eleven_before_and_behind_rules(self):
        drawn = random.Random(300)
        for k, m, letters in RULES:
            behind = [a_call(drawn, number) for number in range(1, 11) for _ in range(3)]
            drawn.shuffle(behind)
            before = [a_call(drawn, number) for number in range(2, 11)]
            calls = before + [rule(k, m, letters)] + behind
            self.assertEqual(len(calls), 40)
            self.assertEqual(ask(*calls), model.answered(calls), calls)


class Untouchable(list):
    """A list that fails at every change, also at one that would be taken back."""

    def refuse(self, *args, **kwargs):
        raise AssertionError("what is handed in is changed")

    __setitem__ = __delitem__ = __iadd__ = __imul__ = refuse
    append = clear = extend = insert = pop = remove = reverse = sort = refuse


class WhatIsHandedIn(unittest.TestCase):
    def test_is_not_changed(self):
        for seed in range(63, 83):
            line = line_of(some_calls(seed, 40))
            before = list(line)
            answers(line)
            self.assertEqual(line, before)

    def test_is_not_changed_for_a_while_either(self):
        for seed in range(123, 133):
            line = line_of(some_calls(seed, 40))
            self.assertEqual(answers(Untouchable(line)), answers(line))

    def test_may_be_changed_afterwards(self):
        line = line_of([rule(2, 1, [1] * 4), paint([3])])
        given = answers(line)
        line.clear()
        self.assertEqual(given, [1, 1, 1, 0])

    def test_is_answered_alike_again(self):
        for seed in range(83, 103):
            line = line_of(some_calls(seed, 40))
            first = answers(line)
            kept = list(first)
            self.assertEqual(answers(line), kept)
            first.clear()
            self.assertEqual(answers(line), kept)

    def test_nothing_is_kept_for_the_next_time(self):
        asked = [
            at(1, 1, 1, 1), at(1, 1, 2, 2), at(2, 0, 0, 0), counts(1, 1), twos(1), paint([1, 2, 3]), paint([5]),
            first(1, 2, 2, [1] * 4), mixed(), share(1), classes(), window(1, 2, 0, 0), window(1, 2, 1, 0),
        ]
        fresh = ask(*asked)
        self.assertEqual(fresh, [
            [1], [-3], [-1], [4], [1, 1, 1, 1, 1], [-1], [0], [1, 0, 0], [0], [1, 1], [1, 1], [1] * 16, [-3],
        ])
        ask(rule(3, 3, [3] * 27), paint([7, 8, 9]), twos(1))
        self.assertEqual(ask(*asked), fresh)


class WhatIsGivenBack(unittest.TestCase):
    def test_is_a_list_of_whole_numbers(self):
        for seed in range(103, 123):
            given = answers(line_of(some_calls(seed, 40)))
            self.assertIs(type(given), list)
            self.assertEqual({type(number) for number in given}, {int})
