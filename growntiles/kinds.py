"""Which letters, painted, look alike however often they grow."""


def numbered(looks):
    """Each look's number, from 1 on in the order in which new looks come."""
    numbers = {}
    for look in looks:
        if look not in numbers:
            numbers[look] = len(numbers) + 1
    return [numbers[look] for look in looks]


def finer_kinds(rule, kinds):
    looks = []
    for a in range(1, rule.m + 1):
        looks.append(tuple([kinds[a - 1]] + [kinds[letter - 1] for letter in rule.square_of(a)]))
    return numbered(looks)


def kinds_of(rule):
    # Letters look alike through one growing more just if they did so far and their squares, place
    # by place, hold letters that did so far. Once this tells no more letters apart, it never will.
    kinds = numbered(rule.paints)
    finer = finer_kinds(rule, kinds)
    while finer != kinds:
        kinds = finer
        finer = finer_kinds(rule, kinds)
    return kinds
