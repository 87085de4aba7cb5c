import random
import unittest

from tests.words import SIGN, nearest, only_answer, value

CASES = {
    "NaN: the upper half with bit 6 set": (
        (0x7F800001, 0x7FC0), (0xFF800001, 0xFFC0), (0x7FC00000, 0x7FC0), (0x7F810000, 0x7FC1),
        (0xFFBFFFFF, 0xFFFF), (0x7FFFFFFF, 0x7FFF), (0xFFFFFFFF, 0xFFFF),
    ),
    "infinity": ((0x7F800000, 0x7F80), (0xFF800000, 0xFF80)),
    "counts as 0": (
        (0, 0), (SIGN, 0x8000), (1, 0), (0x80000001, 0x8000), (0x7FFFFF, 0), (0x807FFFFF, 0x8000),
        (0x00408000, 0), (0x80408001, 0x8000),
    ),
    "the least that isn't 0": ((0x00800000, 0x0080), (0x80800000, 0x8080), (0x00808000, 0x0080), (0x00808001, 0x0081)),
    "ties": (
        (0x3F808000, 0x3F80), (0x3F818000, 0x3F82), (0xBF828000, 0xBF82), (0xBF838000, 0xBF84),
        (0x3FFF8000, 0x4000),
    ),
    "beside ties": (
        (0x3F807FFF, 0x3F80), (0x3F808001, 0x3F81), (0x3F817FFF, 0x3F81), (0x3F818001, 0x3F82),
        (0x3F80FFFF, 0x3F81), (0x3F81FFFF, 0x3F82), (0x3F800001, 0x3F80),
    ),
    "the greatest": (
        (0x7F7F0000, 0x7F7F), (0x7F7F7FFF, 0x7F7F), (0x7F7F8000, 0x7F80), (0x7F7FFFFF, 0x7F80),
        (0xFF7F7FFF, 0xFF7F), (0xFF7F8000, 0xFF80), (0xFF7FFFFF, 0xFF80),
    ),
}


class Narrow(unittest.TestCase):
    def test_none(self):
        self.assertEqual(only_answer(1, []), [0])

    def test_each_kind(self):
        for name, pairs in CASES.items():
            for x, found in pairs:
                with self.subTest(name, x=hex(x)):
                    self.assertEqual(only_answer(1, [x]), [0, found])

    def test_several_in_their_order(self):
        pairs = [pair for pairs in CASES.values() for pair in pairs]
        self.assertEqual(only_answer(1, [x for x, found in pairs]), [0] + [found for x, found in pairs])

    def test_to_the_nearest_short(self):
        source = random.Random(21)
        singles = [source.randrange(0x00800000, 0x7F7F0000) for time in range(5000)]
        for x, found in zip(singles, only_answer(1, singles)[1:]):
            self.assertEqual(value(found << 16), nearest(value(x), 8), hex(x))

    def test_minus_is_as_plus(self):
        source = random.Random(22)
        singles = [source.randrange(SIGN) for time in range(5000)]
        plus = only_answer(1, singles)
        minus = only_answer(1, [SIGN | x for x in singles])
        self.assertEqual(minus, [0] + [0x8000 | short for short in plus[1:]])


class Widen(unittest.TestCase):
    def test_none(self):
        self.assertEqual(only_answer(2, []), [0])

    def test_every_short(self):
        for first in range(0, 65536, 4096):
            shorts = list(range(first, first + 4096))
            self.assertEqual(only_answer(2, shorts), [0] + [short * 65536 for short in shorts])

    def test_what_has_no_exponent_bits_stays_as_it_is(self):
        self.assertEqual(only_answer(2, [1, 0x807F, 0x7F81]), [0, 0x10000, 0x807F0000, 0x7F810000])

    def test_narrowed_again(self):
        shorts = [short for short in range(0x80, 0x7F80, 7)][:5000]
        self.assertEqual(only_answer(1, only_answer(2, shorts)[1:]), [0] + shorts)


if __name__ == "__main__":
    unittest.main()
