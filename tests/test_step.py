import random
import unittest

from tests.words import INFINITY, MADE_NAN, SIGN, only_answer, power, said_step, short, single

ONE = short(1)
MINUS_ONE = short(-1)
INF = 0x7F80
MINUS_INF = 0xFF80
GREATEST = 0x7F7FFFFF


def step(s, a, b):
    answer = only_answer(0, s, a, b)
    if len(answer) != 2 or answer[0] != 0:
        raise AssertionError(f"no single: {answer}")
    return answer[1]


class NaNs(unittest.TestCase):
    def test_each_alone_gets_bit_22(self):
        self.assertEqual(step(single(1), 0x7F81, ONE), 0x7FC10000)
        self.assertEqual(step(single(1), ONE, 0xFF82), 0xFFC20000)
        self.assertEqual(step(0x7F800001, ONE, ONE), 0x7FC00001)
        self.assertEqual(step(0xFFBFFFFF, ONE, ONE), 0xFFFFFFFF)

    def test_those_with_bit_22_stay(self):
        self.assertEqual(step(single(1), 0xFFC5, ONE), 0xFFC50000)
        self.assertEqual(step(0x7FD23456, ONE, ONE), 0x7FD23456)

    def test_the_first_of_a_b_s(self):
        self.assertEqual(step(0x7F800003, 0x7F81, 0xFF82), 0x7FC10000)
        self.assertEqual(step(0x7F800003, ONE, 0xFF82), 0xFFC20000)
        self.assertEqual(step(0x7F800003, 0x7F81, ONE), 0x7FC10000)

    def test_before_zero_meets_infinity(self):
        self.assertEqual(step(0x7F800003, INF, 0), 0x7FC00003)
        self.assertEqual(step(INFINITY, 0x7F81, 0), 0x7FC10000)
        self.assertEqual(step(INFINITY, 0, 0x7F81), 0x7FC10000)
        self.assertEqual(step(INFINITY, MINUS_INF, 0x7F81), 0x7FC10000)

    def test_the_sign_of_a_NaN_hangs_on_itself(self):
        self.assertEqual(step(single(-1), 0x7F81, MINUS_ONE), 0x7FC10000)
        self.assertEqual(step(single(1), MINUS_ONE, 0xFF81), 0xFFC10000)


class Infinities(unittest.TestCase):
    def test_zero_meets_infinity(self):
        for zero in (0, 0x8000, 1, 0x7F, 0x8001, 0x807F):
            for infinite in (INF, MINUS_INF):
                for s in (0, SIGN, single(1), INFINITY, SIGN | INFINITY):
                    self.assertEqual(step(s, zero, infinite), MADE_NAN)
                    self.assertEqual(step(s, infinite, zero), MADE_NAN)

    def test_infinities_of_different_signs(self):
        self.assertEqual(step(INFINITY, MINUS_INF, ONE), MADE_NAN)
        self.assertEqual(step(INFINITY, INF, MINUS_ONE), MADE_NAN)
        self.assertEqual(step(INFINITY, ONE, MINUS_INF), MADE_NAN)
        self.assertEqual(step(INFINITY, INF, MINUS_INF), MADE_NAN)
        self.assertEqual(step(SIGN | INFINITY, INF, INF), MADE_NAN)
        self.assertEqual(step(SIGN | INFINITY, MINUS_INF, MINUS_ONE), MADE_NAN)

    def test_infinities_of_one_sign(self):
        self.assertEqual(step(INFINITY, INF, ONE), INFINITY)
        self.assertEqual(step(INFINITY, MINUS_INF, MINUS_INF), INFINITY)
        self.assertEqual(step(SIGN | INFINITY, INF, MINUS_INF), SIGN | INFINITY)

    def test_infinite_product(self):
        for s in (0, SIGN, 1, single(3), single(-3), GREATEST, SIGN | GREATEST):
            self.assertEqual(step(s, INF, ONE), INFINITY)
            self.assertEqual(step(s, ONE, INF), INFINITY)
            self.assertEqual(step(s, MINUS_INF, ONE), SIGN | INFINITY)
            self.assertEqual(step(s, MINUS_ONE, INF), SIGN | INFINITY)
            self.assertEqual(step(s, MINUS_INF, MINUS_INF), INFINITY)

    def test_infinite_s(self):
        for s in (INFINITY, SIGN | INFINITY):
            for a in (0, 0x8000, 1, ONE, MINUS_ONE, 0x7F7F):
                self.assertEqual(step(s, a, 0xFF7F), s)
                self.assertEqual(step(s, a, 0), s)


class Zeros(unittest.TestCase):
    def test_all_signs(self):
        for s_sign in (0, 1):
            for a_sign in (0, 1):
                for b_sign in (0, 1):
                    both_minus = s_sign == 1 and a_sign != b_sign
                    found = step(s_sign << 31, a_sign << 15, b_sign << 15)
                    self.assertEqual(found, SIGN if both_minus else 0)

    def test_what_takes_itself_away_is_plus(self):
        self.assertEqual(step(single(6), short(-2), short(3)), 0)
        self.assertEqual(step(single(-6), short(2), short(3)), 0)

    def test_exponent_bits_all_0_count_as_0(self):
        for s in (1, 0x7FFFFF, 0x400000):
            self.assertEqual(step(s, 0, 0), 0)
            self.assertEqual(step(SIGN | s, 0, 0x8000), SIGN)
            self.assertEqual(step(SIGN | s, 0, 0), 0)
            self.assertEqual(step(s, ONE, short(5)), single(5))
        for a in (1, 0x7F, 0x40):
            self.assertEqual(step(single(7), a, 0x7F7F), single(7))
            self.assertEqual(step(single(7), 0xFF7F, a), single(7))
            self.assertEqual(step(0, a, ONE), 0)
            self.assertEqual(step(SIGN, 0x8000 | a, ONE), SIGN)
            self.assertEqual(step(SIGN, ONE, 0x8000 | a), SIGN)

    def test_a_product_of_zero_leaves_s(self):
        for s in (single(7), single(-7), GREATEST, 0x800000, 0x80800000, 0x3F800001):
            for a in (0, 0x8000):
                self.assertEqual(step(s, a, MINUS_ONE), s)


class Rounding(unittest.TestCase):
    def test_of_two_as_near_the_even_one(self):
        half_unit = short(power(-12))
        minus_half_unit = short(-power(-12))
        self.assertEqual(step(0x3F800000, half_unit, half_unit), 0x3F800000)
        self.assertEqual(step(0x3F800001, half_unit, half_unit), 0x3F800002)
        self.assertEqual(step(0x3F800002, half_unit, half_unit), 0x3F800002)
        self.assertEqual(step(0x3F800003, half_unit, half_unit), 0x3F800004)
        self.assertEqual(step(0xBF800000, half_unit, minus_half_unit), 0xBF800000)
        self.assertEqual(step(0xBF800001, half_unit, minus_half_unit), 0xBF800002)

    def test_to_nearest(self):
        unit = short(power(-12))
        for part, up in ((0.5, 0), (0.9921875, 0), (1.0078125, 1), (1.5, 1), (1.9921875, 1), (2, 1)):
            self.assertEqual(step(0x3F800000, unit, short(part * 2.0 ** -12)), 0x3F800000 + up)

    def test_into_the_next_exponent(self):
        half_unit = short(power(-12))
        self.assertEqual(step(0x3FFFFFFF, half_unit, half_unit), 0x40000000)

    def test_once_and_of_the_exact_sum(self):
        # The product alone is beyond 2^128, the sum isn't.
        self.assertEqual(step(SIGN | GREATEST, short(power(64)), short(power(64))), single(power(104)))
        # The product alone is below 2^-126, and still not lost.
        self.assertEqual(step(0x800000, short(power(-75)), short(power(-74))), 0x800001)

    def test_far_apart(self):
        tiny = short(power(-100))
        self.assertEqual(step(single(1), tiny, tiny), single(1))
        self.assertEqual(step(single(1), tiny, short(-power(-100))), single(1))
        self.assertEqual(step(0x00800001, short(3), short(5)), single(15))
        self.assertEqual(step(0x80FFFFFF, short(power(60)), short(power(60))), single(power(120)))
        self.assertEqual(step(GREATEST, 0x0080, 0x0080), GREATEST)
        self.assertEqual(step(0x00800000, 0x7F7F, 0xFF7F), SIGN | INFINITY)

    def test_a_far_number_breaks_a_tie(self):
        half = power(-24)
        for extra, found in ((power(-47), 0x3F800001), (0, 0x3F800000), (-power(-48), 0x3F800000)):
            self.assertEqual(step(single(half + extra), ONE, ONE), found)
        odd_product = (0x3F81, 0x3F81)
        base = single((1 + power(-7)) ** 2)
        for extra, found in ((power(-47), base + 1), (0, base), (-power(-48), base)):
            self.assertEqual(step(single(half + extra), *odd_product), found)
        # Here s is the great one: the product is a bit more than half of its last place, or a bit less.
        more = short((1 + power(-7)) * power(-12))
        less = short((1 - power(-8)) * power(-12))
        self.assertEqual(step(0x3F800000, more, short(power(-12))), 0x3F800001)
        self.assertEqual(step(0x3F800001, less, short(power(-12))), 0x3F800001)


class Bounds(unittest.TestCase):
    def test_at_2_to_the_128(self):
        # Half of the greatest's last place is 2^103: as near to both, and 2^128 is the even one.
        self.assertEqual(step(GREATEST, short(power(52)), short(power(51))), INFINITY)
        self.assertEqual(step(SIGN | GREATEST, short(-power(52)), short(power(51))), SIGN | INFINITY)
        below = short((1 - power(-8)) * power(52))
        self.assertEqual(step(GREATEST, below, short(power(51))), GREATEST)
        self.assertEqual(step(SIGN | GREATEST, below, short(-power(51))), SIGN | GREATEST)

    def test_beyond_2_to_the_128(self):
        self.assertEqual(step(0, short(power(64)), short(power(64))), INFINITY)
        self.assertEqual(step(0, short(power(64)), short(-power(64))), SIGN | INFINITY)
        self.assertEqual(step(0, 0x7F7F, 0x7F7F), INFINITY)
        self.assertEqual(step(0, short(power(64)), short(power(63))), single(power(127)))

    def test_at_2_to_the_minus_126(self):
        self.assertEqual(step(0, short(power(-63)), short(power(-63))), 0x00800000)
        self.assertEqual(step(0, short(power(-63)), short(-power(-63))), 0x80800000)
        self.assertEqual(step(0, short(power(-63)), short(power(-64))), 0)
        self.assertEqual(step(0, short(power(-63)), short(-power(-64))), SIGN)

    def test_just_under_2_to_the_minus_126(self):
        under = short(-power(-75))
        # 2^-126 - 2^-150 has 24 significant bits; half of its last place more, and it's rounded to 2^-126.
        self.assertEqual(step(0x00800000, under, short(power(-75))), 0)
        self.assertEqual(step(0x80800000, under, short(-power(-75))), SIGN)
        self.assertEqual(step(0x00800000, under, short(power(-76))), 0x00800000)
        self.assertEqual(step(0x80800000, under, short(-power(-76))), 0x80800000)
        self.assertEqual(step(0x00800000, under, short((1 + power(-7)) * power(-76))), 0)
        self.assertEqual(step(0x00800000, under, short(power(-77))), 0x00800000)

    def test_a_difference_below_2_to_the_minus_126(self):
        self.assertEqual(step(0x00800001, 0x0080, MINUS_ONE), 0)
        self.assertEqual(step(0x80800001, 0x0080, ONE), SIGN)
        self.assertEqual(step(0x01000000, 0x0080, MINUS_ONE), 0x00800000)

    def test_the_least_products(self):
        self.assertEqual(step(0, 0x0080, 0x0080), 0)
        self.assertEqual(step(0, 0x0080, 0x8080), SIGN)
        self.assertEqual(step(SIGN, 0x0080, 0x0080), 0)


EDGE_SHORTS = [
    0, 1, 0x40, 0x7F, 0x80, 0x81, 0xFF, 0x100, 0x1F80, 0x1FFF, 0x2000, 0x3380, 0x337F, 0x3381, 0x3F00, 0x3F7F,
    0x3F80, 0x3F81, 0x3FFF, 0x4000, 0x4B80, 0x5F80, 0x7F00, 0x7F7F, 0x7F80, 0x7F81, 0x7FC0, 0x7FFF,
]
EDGE_SINGLES = [
    0, 1, 0x7FFFFF, 0x800000, 0x800001, 0xFFFFFF, 0x1000000, 0x33800000, 0x33800001, 0x337FFFFF, 0x3F7FFFFF,
    0x3F800000, 0x3F800001, 0x3FFFFFFF, 0x4B7FFFFF, 0x4B800000, 0x7F7FFFFF, 0x7F800000, 0x7F800001, 0x7FC00000,
]


class AsTheWordsSay(unittest.TestCase):
    def test_edges_with_edges(self):
        singles = EDGE_SINGLES + [SIGN | bits for bits in EDGE_SINGLES]
        for a in EDGE_SHORTS:
            for b in EDGE_SHORTS + [0x8000 | bits for bits in EDGE_SHORTS]:
                for s in singles:
                    self.assertEqual(step(s, a, b), said_step(s, a, b), (s, a, b))
                self.assertEqual(step(1, 0x8000 | a, b), said_step(1, 0x8000 | a, b), (a, b))

    def test_any_bits(self):
        source = random.Random(11)
        for time in range(20000):
            bits = (source.randrange(1 << 32), source.randrange(1 << 16), source.randrange(1 << 16))
            self.assertEqual(step(*bits), said_step(*bits), bits)

    def test_sums_of_numbers_near_one_another(self):
        source = random.Random(12)
        for time in range(40000):
            a = source.randrange(1 << 16)
            b = source.randrange(1 << 16)
            exponent = (a >> 7 & 255) + (b >> 7 & 255) - 127 + source.randrange(-27, 28)
            s = source.randrange(2) << 31 | min(max(exponent, 0), 255) << 23
            s |= source.choice((0, 1, 0x7FFFFF, source.randrange(1 << 23), source.randrange(128) << 16))
            self.assertEqual(step(s, a, b), said_step(s, a, b), (s, a, b))


if __name__ == "__main__":
    unittest.main()
