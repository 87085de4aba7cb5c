import random
import unittest

from tests.words import SIGN, only_answer, power, said_sum, short, single

ONE = short(1)


class Greatest(unittest.TestCase):
    def test_none(self):
        self.assertEqual(only_answer(3, []), [-21])

    def test_one(self):
        for x in (0, SIGN, 1, 0xFFFFFFFF, 0x7FFFFFFF):
            self.assertEqual(only_answer(3, [x]), [0, 0])

    def test_the_order_of_bits(self):
        rising = [
            0xFFFFFFFF, 0xFFC00000, 0xFF800001, 0xFF800000, 0xFF7FFFFF, 0xBF800001, 0xBF800000, 0x80800000,
            0x807FFFFF, 0x80000001, 0x80000000, 0, 1, 0x7FFFFF, 0x800000, 0x3F800000, 0x3F800001, 0x7F7FFFFF,
            0x7F800000, 0x7F800001, 0x7FC00000, 0x7FFFFFFF,
        ]
        for low in range(len(rising)):
            for high in range(low + 1, len(rising)):
                self.assertEqual(only_answer(3, [rising[low], rising[high]]), [0, 1])
                self.assertEqual(only_answer(3, [rising[high], rising[low]]), [0, 0])
        self.assertEqual(only_answer(3, rising), [0, len(rising) - 1])
        self.assertEqual(only_answer(3, rising[::-1]), [0, 0])

    def test_the_first_of_several(self):
        self.assertEqual(only_answer(3, [5, 5, 5]), [0, 0])
        self.assertEqual(only_answer(3, [4, 5, 3, 5]), [0, 1])
        self.assertEqual(only_answer(3, [0xFFFFFFFF, 0xC0000000, 0xC0000000]), [0, 1])
        self.assertEqual(only_answer(3, [SIGN, 0, SIGN, 0]), [0, 1])
        self.assertEqual(only_answer(3, [1, 0x7FC00000, 0xFFC00000, 0x7FC00000]), [0, 1])

    def test_a_long_row(self):
        self.assertEqual(only_answer(3, [7] * 4999 + [8]), [0, 4999])


class Sum(unittest.TestCase):
    def test_not_as_many(self):
        self.assertEqual(only_answer(4, 0, [1], []), [-21])
        self.assertEqual(only_answer(4, 0, [], [1]), [-21])
        self.assertEqual(only_answer(4, 0, [1, 2, 3], [1, 2]), [-21])
        self.assertEqual(only_answer(4, 0, [1, 2], [1, 2, 3]), [-21])

    def test_of_none_s_stays(self):
        for s in (0, SIGN, 1, 0x80000001, 0x7F800001, 0xFFFFFFFF, single(3)):
            self.assertEqual(only_answer(4, s, [], []), [0, s])

    def test_small_numbers(self):
        a = [short(x) for x in (1, 2, 3, 4, 5)]
        b = [short(x) for x in (10, 20, 30, 40, 50)]
        self.assertEqual(only_answer(4, single(7), a, b), [0, single(557)])
        self.assertEqual(only_answer(4, single(7), a[:4], b[:4]), [0, single(307)])
        self.assertEqual(only_answer(4, single(7), a[:1], b[:1]), [0, single(17)])

    def test_number_2p_and_1_comes_first(self):
        # 1 + 2^24 is rounded to 2^24, 1 - 2^24 isn't rounded.
        great = short(power(24))
        minus_great = short(-power(24))
        self.assertEqual(only_answer(4, single(1), [minus_great, great], [ONE, ONE]), [0, 0])
        self.assertEqual(only_answer(4, single(1), [great, minus_great], [ONE, ONE]), [0, single(1)])

    def test_pairs_come_in_their_order(self):
        great = short(power(24))
        minus_great = short(-power(24))
        ones = [ONE] * 4
        self.assertEqual(only_answer(4, single(1), [great, 0, minus_great, 0], ones), [0, 0])
        self.assertEqual(only_answer(4, single(1), [minus_great, 0, great, 0], ones), [0, single(1)])
        self.assertEqual(only_answer(4, single(1), [minus_great, 0, great], ones[:3]), [0, single(1)])
        self.assertEqual(only_answer(4, single(1), [great, 0, minus_great], ones[:3]), [0, 0])

    def test_of_two_NaNs_the_first_that_is_met_stays(self):
        self.assertEqual(only_answer(4, 0, [0x7F81, 0x7F82], [ONE, ONE]), [0, 0x7FC10000])
        self.assertEqual(only_answer(4, 0x7F800003, [ONE, 0x7F82], [ONE, ONE]), [0, 0x7FC20000])

    def test_the_last_ones_partner_counts_as_plus_0(self):
        # With the partner -0 becomes +0 first, and +0 it stays.
        self.assertEqual(only_answer(4, SIGN, [0x8000], [ONE]), [0, 0])
        self.assertEqual(only_answer(4, SIGN, [0x8000, 0x8000], [ONE, ONE]), [0, SIGN])
        self.assertEqual(only_answer(4, SIGN, [0x8000] * 3, [ONE] * 3), [0, 0])
        self.assertEqual(only_answer(4, SIGN, [0x8000] * 4, [ONE] * 4), [0, SIGN])
        # An infinity meets no partner: 0 times 0 and no NaN.
        self.assertEqual(only_answer(4, 0, [0x7F80], [ONE]), [0, 0x7F800000])
        self.assertEqual(only_answer(4, 0, [ONE], [0x7F80]), [0, 0x7F800000])

    def test_an_s_that_counts_as_0(self):
        self.assertEqual(only_answer(4, 0x80000001, [0], [0]), [0, 0])
        self.assertEqual(only_answer(4, 0x007FFFFF, [0, 0], [0, 0]), [0, 0])
        self.assertEqual(only_answer(4, 0x807FFFFF, [0x8000, 0x8000], [0, 0]), [0, SIGN])

    def test_as_the_words_say(self):
        source = random.Random(31)
        for k in list(range(12)) * 20 + [63, 64, 65]:
            s = source.randrange(1 << 32)
            a = [source.randrange(0x3000, 0x4800) | source.choice((0, 0x8000)) for place in range(k)]
            b = [source.randrange(0x3000, 0x4800) | source.choice((0, 0x8000)) for place in range(k)]
            self.assertEqual(only_answer(4, s, a, b), [0, said_sum(s, a, b)], (s, a, b))
            s = source.randrange(0x38000000, 0x48000000)
            self.assertEqual(only_answer(4, s, a, b), [0, said_sum(s, a, b)], (s, a, b))

    def test_long_rows(self):
        self.assertEqual(only_answer(4, 0, [ONE] * 5000, [ONE] * 5000), [0, single(5000)])
        self.assertEqual(only_answer(4, 0, [ONE] * 4999, [ONE] * 4999), [0, single(4999)])


if __name__ == "__main__":
    unittest.main()
