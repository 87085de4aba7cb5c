import random
import unittest

from tests.words import SIGN, only_answer, power, said_sum, said_woven, short, single

SIZES = [
    (k, n) for k in (1, 2, 3, 4, 5, 16, 17, 63, 64) for n in (1, 2, 15, 16, 17, 31, 32, 33, 48, 63, 64)
]
WRONG_SIZES = [(0, 1), (1, 0), (0, 0), (65, 1), (1, 65), (65, 65), (4294967295, 1), (1, 4294967295),
               (4294967295, 4294967295), (65536, 65536), (0, 4294967295)]


def places_of(k, n):
    """Where each number stands when it's woven, row by row, by the document's sum."""
    r = (k + 1) // 2
    places = []
    for row in range(k):
        for column in range(n):
            q, c = divmod(column, 16)
            p, h = divmod(row, 2)
            places.append(((q * r + p) * 16 + c) * 2 + h)
    return places


def woven_count(k, n):
    return 32 * ((k + 1) // 2) * ((n + 15) // 16)


class Weave(unittest.TestCase):
    def test_one_number(self):
        self.assertEqual(only_answer(5, 1, 1, [9]), [0, 9] + [0] * 31)

    def test_two_rows_of_two(self):
        self.assertEqual(only_answer(5, 2, 2, [1, 2, 3, 4]), [0, 1, 3, 2, 4] + [0] * 28)

    def test_three_rows_of_seventeen(self):
        woven = only_answer(5, 3, 17, list(range(1, 52)))
        self.assertEqual(len(woven), 1 + 128)
        self.assertEqual(woven[1:5], [1, 18, 2, 19])
        self.assertEqual(woven[33:37], [35, 0, 36, 0])
        self.assertEqual(woven[65:69], [17, 34, 0, 0])
        self.assertEqual(woven[97:101], [51, 0, 0, 0])

    def test_as_the_words_say(self):
        for k, n in SIZES:
            with self.subTest(k=k, n=n):
                shorts = list(range(1, k * n + 1))
                woven = only_answer(5, k, n, shorts)
                self.assertEqual(woven, [0] + said_woven(k, n, shorts))
                self.assertEqual(len(woven) - 1, woven_count(k, n))
                self.assertEqual([woven[1 + place] for place in places_of(k, n)], shorts)

    def test_sizes_out_of_bounds(self):
        for k, n in WRONG_SIZES:
            for shorts in ([], [1], [1] * 65):
                self.assertEqual(only_answer(5, k, n, shorts), [-21], (k, n))

    def test_another_number_of_numbers(self):
        for k, n in SIZES:
            self.assertEqual(only_answer(5, k, n, [1] * (k * n - 1)), [-21], (k, n))
            self.assertEqual(only_answer(5, k, n, [1] * (k * n + 1)), [-21], (k, n))


class Unweave(unittest.TestCase):
    def test_undoes_weaving(self):
        for k, n in SIZES:
            shorts = list(range(65535, 65535 - k * n, -1))
            woven = only_answer(5, k, n, shorts)[1:]
            self.assertEqual(only_answer(6, k, n, woven), [0] + shorts, (k, n))

    def test_places_beyond_hang_on_nothing(self):
        for k, n in SIZES:
            woven = list(range(woven_count(k, n)))
            self.assertEqual(only_answer(6, k, n, woven), [0] + places_of(k, n), (k, n))

    def test_sizes_out_of_bounds(self):
        for k, n in WRONG_SIZES:
            for woven in ([], [1] * 32, [1] * 33 * 32):
                self.assertEqual(only_answer(6, k, n, woven), [-21], (k, n))

    def test_another_number_of_numbers(self):
        for k, n in SIZES:
            count = woven_count(k, n)
            self.assertEqual(only_answer(6, k, n, [1] * (count - 1)), [-21], (k, n))
            self.assertEqual(only_answer(6, k, n, [1] * (count + 1)), [-21], (k, n))
        self.assertEqual(only_answer(6, 1, 1, [9]), [-21])


def shorts_of(source, count):
    return [source.randrange(0x3800, 0x4400) | source.choice((0, 0x8000)) for place in range(count)]


def singles_of(source, count):
    return [source.randrange(0x38000000, 0x44000000) | source.choice((0, SIGN)) for place in range(count)]


def said_product(m, k, n, a, matrix, c):
    found = []
    for i in range(m):
        for j in range(n):
            column = [matrix[row * n + j] for row in range(k)]
            found.append(said_sum(c[i * n + j], a[i * k:i * k + k], column))
    return found


class Product(unittest.TestCase):
    def test_small_numbers(self):
        a = [short(x) for x in (1, 2, 3, 4, 5, 6)]
        matrix = [short(x) for x in (7, 8, 9, 10, 11, 12)]
        woven = only_answer(5, 3, 2, matrix)[1:]
        c = [single(x) for x in (100, 200, 300, 400)]
        found = [single(x) for x in (158, 264, 439, 554)]
        self.assertEqual(only_answer(7, 2, 3, 2, a, woven, c), [0] + found)

    def test_as_the_words_say(self):
        source = random.Random(41)
        for m, k, n in ((1, 1, 1), (1, 2, 1), (2, 1, 3), (3, 3, 2), (2, 4, 17), (5, 7, 16), (1, 64, 15), (64, 2, 1),
                        (2, 63, 33), (1, 5, 64)):
            a = shorts_of(source, m * k)
            matrix = shorts_of(source, k * n)
            c = singles_of(source, m * n)
            woven = only_answer(5, k, n, matrix)[1:]
            found = only_answer(7, m, k, n, a, woven, c)
            self.assertEqual(found, [0] + said_product(m, k, n, a, matrix, c), (m, k, n))

    def test_the_order_of_steps(self):
        great = short(power(24))
        minus_great = short(-power(24))
        one = short(1)
        woven = only_answer(5, 2, 2, [great, minus_great, minus_great, great])[1:]
        self.assertEqual(only_answer(7, 1, 2, 2, [one, one], woven, [single(1)] * 2), [0, single(1), 0])

    def test_an_odd_k_has_a_partner_of_plus_0(self):
        woven = only_answer(5, 1, 1, [0x8000])[1:]
        self.assertEqual(only_answer(7, 1, 1, 1, [short(1)], woven, [SIGN]), [0, 0])
        woven = only_answer(5, 2, 1, [0x8000, 0x8000])[1:]
        self.assertEqual(only_answer(7, 1, 2, 1, [short(1)] * 2, woven, [SIGN]), [0, SIGN])

    def test_places_beyond_hang_on_nothing(self):
        source = random.Random(42)
        for k, n in ((1, 1), (3, 5), (5, 17), (2, 33)):
            a = shorts_of(source, 2 * k)
            c = singles_of(source, 2 * n)
            woven = only_answer(5, k, n, shorts_of(source, k * n))[1:]
            kept = only_answer(7, 2, k, n, a, woven, c)
            for filling in (0x7FC1, 0x7F80, 0x4000):
                filled = [filling] * len(woven)
                for place in places_of(k, n):
                    filled[place] = woven[place]
                self.assertNotEqual(filled, woven)
                self.assertEqual(only_answer(7, 2, k, n, a, filled, c), kept, (k, n))

    def test_over_the_first_rows_and_then_over_the_rest(self):
        source = random.Random(43)
        for m, k, n in ((1, 3, 1), (2, 8, 3), (3, 9, 17), (2, 64, 5), (1, 63, 16)):
            a = shorts_of(source, m * k)
            matrix = shorts_of(source, k * n)
            c = singles_of(source, m * n)
            c[0] = 0x80000001
            whole = only_answer(7, m, k, n, a, only_answer(5, k, n, matrix)[1:], c)
            for first in range(2, k, 2):
                between = self.part(m, k, n, a, matrix, c, 0, first)
                self.assertEqual([0] + self.part(m, k, n, a, matrix, between, first, k), whole, (m, k, n, first))

    def part(self, m, k, n, a, matrix, c, first, end):
        """The product over the rows from the first up to the end."""
        some = []
        for i in range(m):
            some.extend(a[i * k + first:i * k + end])
        woven = only_answer(5, end - first, n, matrix[first * n:end * n])[1:]
        return only_answer(7, m, end - first, n, some, woven, c)[1:]

    def test_the_greatest_sizes(self):
        one = short(1)
        found = only_answer(7, 64, 64, 64, [one] * 4096, [one] * 4096, [single(1)] * 4096)
        self.assertEqual(found, [0] + [single(65)] * 4096)

    def test_sizes_out_of_bounds(self):
        for wrong in (0, 65, 4294967295, 65536):
            for m, k, n in ((wrong, 1, 1), (1, wrong, 1), (1, 1, wrong), (wrong, wrong, wrong)):
                for count in (0, 1, 65):
                    self.assertEqual(only_answer(7, m, k, n, [1] * count, [1] * 32, [1] * count), [-21], (m, k, n))

    def test_as_many_as_a_size_out_of_bounds_asks_for(self):
        self.assertEqual(only_answer(7, 65, 1, 1, [1] * 65, [1] * 32, [1] * 65), [-21])
        self.assertEqual(only_answer(7, 1, 65, 1, [1] * 65, [1] * 33 * 32, [1]), [-21])
        self.assertEqual(only_answer(7, 1, 1, 65, [1], [1] * 160, [1] * 65), [-21])
        self.assertEqual(only_answer(7, 0, 1, 1, [], [1] * 32, []), [-21])
        self.assertEqual(only_answer(7, 1, 0, 1, [], [], [1]), [-21])
        self.assertEqual(only_answer(7, 1, 1, 0, [1], [], []), [-21])

    def test_another_number_of_numbers(self):
        for m, k, n in ((1, 1, 1), (2, 3, 17), (64, 1, 2)):
            counts = [m * k, woven_count(k, n), m * n]
            rows = [[1] * count for count in counts]
            self.assertEqual(only_answer(7, m, k, n, *rows)[0], 0)
            for which in range(3):
                for change in (-1, 1):
                    rows = [[1] * count for count in counts]
                    rows[which] = [1] * (counts[which] + change)
                    self.assertEqual(only_answer(7, m, k, n, *rows), [-21], (m, k, n, which, change))


if __name__ == "__main__":
    unittest.main()
