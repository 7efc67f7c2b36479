"""The interface: a line of calls in one list, its answers in another."""

import random
import unittest

from growntiles.letters import answers
from tests import plain
from tests.lines import ask, at, counts, ever, line_of, paint, rule, split, twos


def some_calls(seed, how_many):
    """Calls of every number, right and wrong ones, in any order."""
    drawn = random.Random(seed)
    rules = plain.some_rules(seed, 2)
    calls = []
    for _ in range(how_many):
        size = drawn.randint(0, 10)
        row = [drawn.randint(0, 4) for _ in range(size)]
        a = drawn.randint(0, 4)
        n = drawn.choice((0, 1, 2, 20, 21, 60, 61))
        calls.append(drawn.choice((
            rule(*drawn.choice(rules)), rule(2, 2, row), paint(row[:4]), at(a, n, drawn.randint(0, 9), drawn.randint(0, 9)),
            counts(a, n), twos(a), ever(a, drawn.randint(0, 4), drawn.randint(0, 4), row), ever(a, 1, 1, [1]),
        )))
    return calls


class ALine(unittest.TestCase):
    def test_the_numbers_as_they_stand(self):
        line = [0, 2, 2, 8, 1, 2, 2, 2, 2, 2, 2, 2, 3, 1, 2, 4, 2, 2, 1, 1, 1, 0, 5, 1, 2, 1, 2, 1, 2, 1, 2, 7, 7, 3, 0, 0]
        self.assertEqual(answers(line), [1, 2, 2, 1, 15, 5, 1, 2, 2, 2, 2, 1, 2, 1, 1, 1, 0, 1, -1])

    def test_one_call(self):
        self.assertEqual(answers([2, 1, 0, 0, 0]), [1, 1])
        self.assertEqual(answers([1, 0]), [1, -1])
        self.assertEqual(answers([4, 1]), [5, 1, 1, 1, 1, 1])

    def test_each_call_is_answered_as_many_numbers_as_told(self):
        told = rule(3, 3, [1, 2, 3] * 9)
        answered = split(answers(line_of([told, counts(1, 2), at(1, 1, 0, 0), twos(1), ever(1, 1, 1, [2]), paint([1, 2, 3])])))
        self.assertEqual([len(answer) for answer in answered], [1, 3, 1, 1 + 4 * answered[3][0], 1, 1])

    def test_a_refusal_is_its_number_alone(self):
        line = line_of([rule(1, 1, [1]), paint([10]), at(0, 0, 0, 0), at(1, 0, 1, 0), counts(0, 0), twos(0), ever(1, 1, 1, [])])
        self.assertEqual(answers(line), [1, -1, 1, -1, 1, -1, 1, -3, 1, -1, 1, -1, 1, -1])

    def test_rows_without_numbers_and_long_rows_are_read_to_their_end(self):
        answered = ask(
            rule(2, 1, []), at(1, 0, 0, 0), paint([]), at(1, 0, 0, 0), ever(1, 1, 1, []), at(1, 0, 0, 0),
            rule(2, 1, [1] * 60), at(1, 0, 0, 0), paint([1] * 12), at(1, 0, 0, 0), ever(1, 1, 1, [1] * 60), at(1, 0, 0, 0),
        )
        self.assertEqual(answered, [[-1], [1]] * 6)

    def test_40_calls(self):
        calls = some_calls(61, 40)
        self.assertEqual(len(ask(*calls)), 40)
        self.assertEqual(len(ask(*[rule(3, 4, [1, 2, 3, 4] * 9), *[twos(1)] * 39])), 40)

    def test_several_rules_in_one_line(self):
        told = plain.some_rules(62, 1)
        calls = []
        expected = []
        for k, m, letters in told:
            asked = [counts(1, 3), twos(m), ever(1, 2, 1, [m, m]), at(m, 2, k, 1)]
            calls += [rule(k, m, letters)] + asked
            expected += ask(rule(k, m, letters), *asked)
        self.assertEqual(ask(*calls), expected)

    def test_calls_that_tell_nothing_change_nothing(self):
        told = rule(2, 3, [1, 2, 3, 1, 2, 2, 3, 3, 3, 1, 1, 2])
        asked = [at(1, 3, 5, 6), counts(2, 4), twos(3), ever(1, 3, 3, [1] * 9)]
        once = ask(told, *asked)
        self.assertEqual(ask(told, *asked, *reversed(asked)), once + once[:0:-1])


class WhatIsHandedIn(unittest.TestCase):
    def test_is_not_changed(self):
        for seed in range(63, 83):
            line = line_of(some_calls(seed, 40))
            before = list(line)
            answers(line)
            self.assertEqual(line, before)

    def test_may_be_changed_afterwards(self):
        line = line_of([rule(2, 1, [1] * 4), paint([3])])
        given = answers(line)
        line.clear()
        self.assertEqual(given, [1, 1, 1, 0])

    def test_is_answered_alike_again(self):
        for seed in range(83, 103):
            line = line_of(some_calls(seed, 40))
            first = answers(line)
            kept = list(first)
            self.assertEqual(answers(line), kept)
            first.clear()
            self.assertEqual(answers(line), kept)

    def test_nothing_is_kept_for_the_next_time(self):
        asked = [at(1, 1, 1, 1), at(1, 1, 2, 2), at(2, 0, 0, 0), counts(1, 1), twos(1), paint([1, 2, 3]), paint([5])]
        fresh = ask(*asked)
        self.assertEqual(fresh, [[1], [-3], [-1], [4], [1, 1, 1, 1, 1], [-1], [0]])
        ask(rule(3, 3, [3] * 27), paint([7, 8, 9]), twos(1))
        self.assertEqual(ask(*asked), fresh)


class WhatIsGivenBack(unittest.TestCase):
    def test_is_a_list_of_whole_numbers(self):
        for seed in range(103, 123):
            given = answers(line_of(some_calls(seed, 40)))
            self.assertIs(type(given), list)
            self.assertEqual({type(number) for number in given}, {int})
