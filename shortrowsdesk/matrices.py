"""Matrices of shorts, woven and row by row, and their product."""

from shortrowsdesk.rows import row_sum

MOST_WIDE = 64
BLOCK = 16


def is_size(n):
    return 1 <= n <= MOST_WIDE


def pairs_of(k):
    return (k + 1) // 2


def woven_size(k, n):
    blocks = (n + BLOCK - 1) // BLOCK
    return blocks * pairs_of(k) * BLOCK * 2


def woven_place(k, row, column):
    pair = (column // BLOCK) * pairs_of(k) + row // 2
    return (pair * BLOCK + column % BLOCK) * 2 + row % 2


def weave(k, n, shorts):
    woven = [0] * woven_size(k, n)
    for place in range(k * n):
        woven[woven_place(k, place // n, place % n)] = shorts[place]
    return woven


def unweave(k, n, woven):
    return [woven[woven_place(k, place // n, place % n)] for place in range(k * n)]


def woven_column(k, woven, column):
    return [woven[woven_place(k, row, column)] for row in range(k)]


def product(m, k, n, a, woven, c):
    columns = [woven_column(k, woven, column) for column in range(n)]
    total = []
    for i in range(m):
        row = a[i * k:(i + 1) * k]
        for j in range(n):
            total.append(row_sum(c[i * n + j], row, columns[j]))
    return total
