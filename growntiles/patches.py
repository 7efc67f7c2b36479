"""Which patches ever come to a letter, and where first."""

from growntiles.growing import grown_rows

WIDEST = 3


def patch_fits(rule, a, w, h, letters):
    if not rule.has_letter(a):
        return False
    if w < 1 or w > WIDEST or h < 1 or h > WIDEST:
        return False
    return len(letters) == w * h and rule.has_letters(letters)


def cut(rows, x, y, w, h):
    letters = []
    for row in rows[y:y + h]:
        letters.extend(row[x:x + w])
    return tuple(letters)


def patches_in(rows, w, h):
    patches = []
    for y in range(len(rows) - h + 1):
        for x in range(len(rows[0]) - w + 1):
            patches.append(cut(rows, x, y, w, h))
    return patches


def grown_two(rule, two):
    return grown_rows(rule, [two[:2], two[2:]])


def twos_of(rule, a):
    # Two places side by side lie in at most two squares side by side. So each patch of 2 by 2 lies
    # in what one of the growing before became, and nothing is missed once no new one is found.
    found = {}
    waiting = patches_in(grown_rows(rule, [[a]]), 2, 2)
    while len(waiting) > 0:
        two = waiting.pop()
        if two not in found:
            found[two] = True
            waiting.extend(patches_in(grown_two(rule, two), 2, 2))
    return sorted(found)


def comes(rule, a, w, h, letters):
    # Three places in a row, too, lie in at most two squares: behind the first growing each patch
    # lies in what a patch of 2 by 2 became. Only 0 and 1 growings have to be looked at themselves.
    patch = tuple(letters)
    alone = [[a]]
    if patch in patches_in(alone, w, h) or patch in patches_in(grown_rows(rule, alone), w, h):
        return True
    for two in twos_of(rule, a):
        if patch in patches_in(grown_two(rule, two), w, h):
            return True
    return False


def lowest_place(rows, w, h, patch):
    for y in range(len(rows) - h + 1):
        for x in range(len(rows[0]) - w + 1):
            if cut(rows, x, y, w, h) == patch:
                return [x, y]
    return None


def first_place(rule, a, w, h, letters, most):
    """After how many growings, 0 to most, the patch comes first, and its x and y; None if it doesn't."""
    patch = tuple(letters)
    rows = [[a]]
    for growings in range(most + 1):
        if growings > 0:
            rows = grown_rows(rule, rows)
        place = lowest_place(rows, w, h, patch)
        if place is not None:
            return [growings] + place
    return None
