"""The calls of one line: read from one list of numbers, answered in another."""

from growntiles.growing import counts_after, letter_at, width_after
from growntiles.patches import comes, patch_fits, twos_of
from growntiles.rules import Rule, paint_fits, rule_fits

# A call's number is its place in both: how many whole numbers it has, and if a row is behind them.
NUMBERS_OF_CALL = (2, 0, 4, 2, 1, 3)
ROW_OF_CALL = (True, True, False, False, False, True)

MOST_GROWINGS_OF_PLACES = 20
MOST_GROWINGS_OF_COUNTS = 60

WRONG = -1
NOT_THERE = -3


def answer_rule(rule, k, m, letters):
    if not rule_fits(k, m, letters):
        return [WRONG]
    rule.tell(k, m, letters)
    return [m]


def answer_paint(rule, numbers):
    if not paint_fits(rule, numbers):
        return [WRONG]
    rule.paint(numbers)
    return [0]


def answer_at(rule, a, n, x, y):
    if not rule.has_letter(a) or n > MOST_GROWINGS_OF_PLACES:
        return [WRONG]
    width = width_after(rule.k, n)
    if x >= width or y >= width:
        return [NOT_THERE]
    return [letter_at(rule, a, n, x, y)]


def answer_counts(rule, a, n):
    if not rule.has_letter(a) or n > MOST_GROWINGS_OF_COUNTS:
        return [WRONG]
    return counts_after(rule, a, n)


def answer_twos(rule, a):
    if not rule.has_letter(a):
        return [WRONG]
    twos = twos_of(rule, a)
    answer = [len(twos)]
    for two in twos:
        answer.extend(two)
    return answer


def answer_ever(rule, a, w, h, letters):
    if not patch_fits(rule, a, w, h, letters):
        return [WRONG]
    return [1 if comes(rule, a, w, h, letters) else 0]


def answer_call(rule, call, numbers, row):
    if call == 0:
        return answer_rule(rule, numbers[0], numbers[1], row)
    if call == 1:
        return answer_paint(rule, row)
    if call == 2:
        return answer_at(rule, numbers[0], numbers[1], numbers[2], numbers[3])
    if call == 3:
        return answer_counts(rule, numbers[0], numbers[1])
    if call == 4:
        return answer_twos(rule, numbers[0])
    return answer_ever(rule, numbers[0], numbers[1], numbers[2], row)


def row_at(calls, place):
    return calls[place + 1:place + 1 + calls[place]]


def answers(calls):
    rule = Rule()
    answered = []
    place = 0
    while place < len(calls):
        call = calls[place]
        behind = place + 1 + NUMBERS_OF_CALL[call]
        numbers = calls[place + 1:behind]
        row = []
        if ROW_OF_CALL[call]:
            row = row_at(calls, behind)
            behind += 1 + len(row)
        answer = answer_call(rule, call, numbers, row)
        answered.append(len(answer))
        answered.extend(answer)
        place = behind
    return answered
