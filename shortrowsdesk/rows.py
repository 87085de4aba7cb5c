"""Rows of numbers: their sum in pairs of steps, and the greatest in the order of bits."""

from shortrowsdesk.singles import SIGN, step


def row_sum(s, a, b):
    k = len(a)
    total = s
    for first in range(0, k - 1, 2):
        total = step(total, a[first + 1], b[first + 1])
        total = step(total, a[first], b[first])
    if k % 2 == 1:
        # The step with the partner that isn't there is done too: it may change a total that counts as 0.
        total = step(total, 0, 0)
        total = step(total, a[k - 1], b[k - 1])
    return total


def rank(x):
    # It grows as x goes up in the order of bits; that of -0 is far below 0, so it isn't +0's.
    return -x if x & SIGN else x


def greatest_place(singles, first, width):
    # Counted from the row's first number; the row needn't be all of singles.
    best = first
    for place in range(first + 1, first + width):
        if rank(singles[place]) > rank(singles[best]):
            best = place
    return best - first
