"""Nets put together from layers."""

MARK = [66, 82, 78, 49]
END = [0]
CLAMP = [2]
SHORTEN = [3]
ASIDE = [4]
ADD = [5]
MULTIPLY = [6]
CHANGE_PLACES = [11]
TAKE_BEHIND = [12]
GREATEST = [13]
LOOP_END = [15]


def two(number):
    return [number % 256, number // 256]


def four(number):
    return two(number % 65536) + two(number // 65536)


def net(width, *layers):
    found = MARK + two(width)
    for layer in layers:
        found += layer
    return found


def matrix_layer(k, m):
    """A layer 1 for a row of k, with bytes that would be layers 0 and no layers if they were read as such."""
    woven = 32 * ((k + 1) // 2) * ((m + 15) // 16)
    return [1] + two(m) + [0, 255] * woven + [0, 0, 128, 63] * m


def told_matrix(rows, singles, filling=0):
    """A layer 1 of a matrix told by its rows; filling stands in the places that hang on nothing."""
    k = len(rows)
    m = len(singles)
    found = [1] + two(m)
    for block in range(0, m, 16):
        for pair in range(0, k, 2):
            for column in range(block, block + 16):
                for row in (pair, pair + 1):
                    found += two(rows[row][column] if row < k and column < m else filling)
    for x in singles:
        found += four(x)
    return found


def scale(s):
    return [7] + two(s)


def shift(s):
    return [8] + two(s)


def use(h, m):
    return [9] + two(h) + two(m)


def cut(f, m):
    return [10] + two(f) + two(m)


def loop(r):
    return [14, r]


def halves(k):
    """Of a row of 2 k the second half is put aside, and the first one stays."""
    return ASIDE + cut(k, k) + CHANGE_PLACES + cut(0, k)


# Nets that are not whole in a house that keeps none, one for each code, and their faults.
FAULTS = (
    ([], [-1, 0]), (net(0, END), [-2, 0]), (net(3, CLAMP), [-3, 7]), (net(3, [7, 0]), [-4, 6]),
    (net(3, CLAMP, cut(0, 4), END), [-5, 7]), (net(3, ADD, END), [-6, 6]), (net(3, ASIDE, END), [-7, 7]),
    (net(3, END, END), [-8, 7]), (net(3, use(0, 3), END), [-9, 6]), (net(3, CLAMP * 4096, END), [-10, 4102]),
)
