"""The calls of one line: read from one list of numbers, answered in another."""

from growntiles.growing import counts_after, letter_at, square_at, width_after
from growntiles.kinds import kinds_of
from growntiles.mixing import mixed_after, part_of
from growntiles.patches import comes, first_place, patch_fits, twos_of
from growntiles.rules import Rule, paint_fits, rule_fits

# A call's number is its place in both: how many whole numbers it has, and if a row is behind them.
NUMBERS_OF_CALL = (2, 0, 4, 2, 1, 3, 3, 0, 1, 0, 4)
ROW_OF_CALL = (True, True, False, False, False, True, True, False, False, False, False)

MOST_GROWINGS_OF_PLACES = 20
MOST_GROWINGS_OF_COUNTS = 60
MOST_GROWINGS_OF_FIRST = 4

WINDOW_SIDE = 4

FITS = 0
WRONG = -1
NOT_THERE = -3
TOO_LATE = -7


def answer_rule(rule, k, m, letters):
    if not rule_fits(k, m, letters):
        return [WRONG]
    rule.tell(k, m, letters)
    return [m]


def answer_paint(rule, numbers):
    if not paint_fits(rule, numbers):
        return [WRONG]
    rule.paint(numbers)
    return [0]


def refusal_of_places(rule, a, n, x, y, side):
    """Why the side columns from x on and the side rows from y on can't be answered, or FITS."""
    if not rule.has_letter(a) or n > MOST_GROWINGS_OF_PLACES:
        return WRONG
    width = width_after(rule.k, n)
    if x + side > width or y + side > width:
        return NOT_THERE
    return FITS


def answer_at(rule, a, n, x, y):
    refusal = refusal_of_places(rule, a, n, x, y, 1)
    if refusal != FITS:
        return [refusal]
    return [letter_at(rule, a, n, x, y)]


def answer_counts(rule, a, n):
    if not rule.has_letter(a) or n > MOST_GROWINGS_OF_COUNTS:
        return [WRONG]
    return counts_after(rule, a, n)


def answer_twos(rule, a):
    if not rule.has_letter(a):
        return [WRONG]
    twos = twos_of(rule, a)
    answer = [len(twos)]
    for two in twos:
        answer.extend(two)
    return answer


def answer_ever(rule, a, w, h, letters):
    if not patch_fits(rule, a, w, h, letters):
        return [WRONG]
    return [1 if comes(rule, a, w, h, letters) else 0]


def answer_first(rule, a, w, h, letters):
    if not patch_fits(rule, a, w, h, letters):
        return [WRONG]
    if not comes(rule, a, w, h, letters):
        return [NOT_THERE]
    first = first_place(rule, a, w, h, letters, MOST_GROWINGS_OF_FIRST)
    if first is None:
        return [TOO_LATE]
    return first


def answer_mixed(rule):
    growings = mixed_after(rule)
    if growings is None:
        return [NOT_THERE]
    return [growings]


def answer_share(rule, a):
    if not rule.has_letter(a):
        return [WRONG]
    if mixed_after(rule) is None:
        return [NOT_THERE]
    return part_of(rule, a)


def answer_classes(rule):
    kinds = kinds_of(rule)
    return [max(kinds)] + kinds


def answer_window(rule, a, n, x, y):
    refusal = refusal_of_places(rule, a, n, x, y, WINDOW_SIDE)
    if refusal != FITS:
        return [refusal]
    return square_at(rule, a, n, x, y, WINDOW_SIDE)


def answer_call(rule, call, numbers, row):
    if call == 0:
        return answer_rule(rule, numbers[0], numbers[1], row)
    if call == 1:
        return answer_paint(rule, row)
    if call == 2:
        return answer_at(rule, numbers[0], numbers[1], numbers[2], numbers[3])
    if call == 3:
        return answer_counts(rule, numbers[0], numbers[1])
    if call == 4:
        return answer_twos(rule, numbers[0])
    if call == 5:
        return answer_ever(rule, numbers[0], numbers[1], numbers[2], row)
    if call == 6:
        return answer_first(rule, numbers[0], numbers[1], numbers[2], row)
    if call == 7:
        return answer_mixed(rule)
    if call == 8:
        return answer_share(rule, numbers[0])
    if call == 9:
        return answer_classes(rule)
    return answer_window(rule, numbers[0], numbers[1], numbers[2], numbers[3])


def row_at(calls, place):
    return calls[place + 1:place + 1 + calls[place]]


def answers(calls):
    rule = Rule()
    answered = []
    place = 0
    while place < len(calls):
        call = calls[place]
        behind = place + 1 + NUMBERS_OF_CALL[call]
        numbers = calls[place + 1:behind]
        row = []
        if ROW_OF_CALL[call]:
            row = row_at(calls, behind)
            behind += 1 + len(row)
        answer = answer_call(rule, call, numbers, row)
        answered.append(len(answer))
        answered.extend(answer)
        place = behind
    return answered
