"""Each layer 0 to 13 by a run of a net that is kept."""

import unittest

from tests.drawn_nets import ODD_SHORTS, ODD_SINGLES
from tests.made_nets import (
    ADD, ASIDE, CHANGE_PLACES, CLAMP, END, GREATEST, MULTIPLY, SHORTEN, TAKE_BEHIND,
    cut, halves, net, scale, shift, told_matrix,
)
from tests.words import MADE_NAN, SIGN, all_answers, power, said_narrow, said_step, said_sum, short, single

ONE = short(1)
INFINITY = 0x7F800000


def ran(row, *layers):
    kept, found = all_answers((12, 0, net(len(row), *layers, END)), (15, 0, row))
    if kept != [0] or found[0] != 0:
        raise AssertionError((kept, found))
    return found[1:]


def ran_with_each_pair(layer, pairs):
    """Of each pair x, y the number that the layer makes of x here and y put aside."""
    found = []
    for first in range(0, len(pairs), 32):
        part = pairs[first:first + 32]
        row = [x for x, y in part] + [y for x, y in part]
        found += ran(row, halves(len(part)), layer)
    return found


EACH_PAIR = [(x, y) for x in ODD_SINGLES for y in ODD_SINGLES]


class ComesOut(unittest.TestCase):
    def test_as_it_is(self):
        row = list(ODD_SINGLES)
        self.assertEqual(ran(row), row)
        self.assertEqual(ran([0x80000001]), [0x80000001])
        self.assertEqual(ran([SIGN] * 64), [SIGN] * 64)


class Layer1(unittest.TestCase):
    def test_small_numbers(self):
        rows = [[short(1), short(2)], [short(3), short(4)], [short(5), short(6)]]
        layer = told_matrix(rows, [single(100), single(1000)])
        self.assertEqual(ran([single(x) for x in (1, 10, 100)], layer), [single(631), single(1642)])

    def test_the_row_is_narrowed_and_the_singles_are_not(self):
        layer = told_matrix([[ONE]], [single(power(-20))])
        self.assertEqual(ran([0x3F808000], layer), [single(1 + power(-20))])
        self.assertEqual(ran([0x3F818000], layer), [single(1 + power(-6) + power(-20))])

    def test_number_2p_and_1_comes_first(self):
        great = single(power(24))
        layer = told_matrix([[ONE], [ONE]], [single(1)])
        self.assertEqual(ran([great ^ SIGN, great], layer), [0])
        self.assertEqual(ran([great, great ^ SIGN], layer), [single(1)])

    def test_pairs_come_in_their_order(self):
        great = single(power(24))
        layer = told_matrix([[ONE]] * 4, [single(1)])
        self.assertEqual(ran([great, 0, great ^ SIGN, 0], layer), [0])
        self.assertEqual(ran([great ^ SIGN, 0, great, 0], layer), [single(1)])

    def test_the_last_ones_partner_counts_as_plus_0(self):
        for filling in (0, 0x7F80, 0x7FC1, 0x8000, ONE):
            layer = told_matrix([[ONE]], [SIGN], filling)
            self.assertEqual(ran([SIGN], layer), [0])
            layer = told_matrix([[ONE]] * 3, [SIGN], filling)
            self.assertEqual(ran([SIGN] * 3, layer), [0])
            layer = told_matrix([[ONE]] * 2, [SIGN], filling)
            self.assertEqual(ran([SIGN] * 2, layer), [SIGN])

    def test_the_rows_NaN_comes_before_the_matrixs_and_that_before_the_singles(self):
        layer = told_matrix([[0x7F82, ONE], [0, 0]], [0xFF800003, 0xFF800003])
        self.assertEqual(ran([0x7F810000, 0], layer), [0x7FC10000] * 2)
        self.assertEqual(ran([single(1), 0], layer), [0x7FC20000, 0xFFC00003])

    def test_infinities(self):
        layer = told_matrix([[ONE, 0, short(-1)]], [0, 0, INFINITY])
        self.assertEqual(ran([INFINITY], layer), [INFINITY, MADE_NAN, MADE_NAN])
        self.assertEqual(ran([0x7F7F8000], layer), [INFINITY, MADE_NAN, MADE_NAN])
        self.assertEqual(ran([0xFF800000], layer), [0xFF800000, MADE_NAN, INFINITY])

    def test_what_counts_as_0(self):
        layer = told_matrix([[ONE, 0x7F, short(-1)]], [0x007FFFFF, 0x80000001, 1])
        self.assertEqual(ran([0x007FFFFF], layer), [0, 0, 0])
        layer = told_matrix([[ONE], [0x8001]], [0x80000001])
        self.assertEqual(ran([0x80000001, single(1)], layer), [SIGN])

    def test_narrower_wider_and_as_wide(self):
        for k in (1, 2, 3, 15, 16, 17, 33):
            for m in (1, 2, 15, 16, 17, 32, 33):
                rows = [[short((i * 7 + j * 3) % 11 - 5) for j in range(m)] for i in range(k)]
                singles = [single(j - 3) for j in range(m)]
                row = [single(i % 5 - 2) for i in range(k)]
                expected = []
                for j in range(m):
                    shorts = [said_narrow(x) for x in row]
                    expected.append(said_sum(singles[j], shorts, [rows[i][j] for i in range(k)]))
                self.assertEqual(ran(row, told_matrix(rows, singles, 0x7FC1)), expected, (k, m))

    def test_64_rows_and_columns(self):
        rows = [[short(1 + (i + j) % 2) for j in range(64)] for i in range(64)]
        self.assertEqual(ran([single(1)] * 64, told_matrix(rows, [single(j) for j in range(64)])),
                         [single(96 + j) for j in range(64)])

    def test_the_next_layer_1_has_rows_for_the_new_width(self):
        first = told_matrix([[ONE, short(2), short(3)]], [0, 0, 0])
        second = told_matrix([[ONE], [short(10)], [short(100)]], [single(7)])
        self.assertEqual(ran([single(2)], first, second), [single(7 + 2 + 40 + 600)])

    def test_as_the_product_of_call_7(self):
        row = list(ODD_SINGLES)
        k = len(row)
        shorts = [ODD_SHORTS[(5 * place) % len(ODD_SHORTS)] for place in range(k * 20)]
        singles = [ODD_SINGLES[(3 * j) % k] for j in range(20)]
        layer = told_matrix([shorts[i * 20:(i + 1) * 20] for i in range(k)], singles)
        narrowed, woven = all_answers((1, row), (5, k, 20, shorts))
        product, = all_answers((7, 1, k, 20, narrowed[1:], woven[1:], singles))
        self.assertEqual(ran(row, layer), product[1:])


class OneNumberByItself(unittest.TestCase):
    def test_2_clamps(self):
        self.assertEqual(ran([SIGN, 0, 0x80000001, 1, 0xFF800000, INFINITY], CLAMP), [0, 0, 0, 1, 0, INFINITY])
        self.assertEqual(ran([0xFFC00000, 0x7FC00000, 0x7F800001], CLAMP), [0, 0x7FC00000, 0x7F800001])
        self.assertEqual(ran([single(-3), single(3), 0x3F800001], CLAMP), [0, single(3), 0x3F800001])

    def test_3_narrows_and_widens(self):
        self.assertEqual(ran([0x3F808000, 0x3F818000, 0x3F808001], SHORTEN), [0x3F800000, 0x3F820000, 0x3F810000])
        self.assertEqual(ran([1, 0x807FFFFF, 0x7F7F8000], SHORTEN), [0, SIGN, INFINITY])
        self.assertEqual(ran([0x7F800001, 0xFF800001, INFINITY], SHORTEN), [0x7FC00000, 0xFFC00000, INFINITY])
        row = list(ODD_SINGLES)
        self.assertEqual(ran(row, SHORTEN), [said_narrow(x) << 16 for x in row])

    def test_7_narrows_first(self):
        self.assertEqual(ran([0x3F808001, 0x3F808000], scale(short(3))), [single(3 + 3 * power(-7)), single(3)])

    def test_7_gives_plus_0(self):
        self.assertEqual(ran([SIGN, 0, 0x80000001], scale(ONE)), [0, 0, 0])
        self.assertEqual(ran([single(-1), single(1)], scale(0)), [0, 0])
        self.assertEqual(ran([single(-1), single(1)], scale(0x8000)), [0, 0])

    def test_7_of_two_NaNs_takes_the_rows(self):
        self.assertEqual(ran([0x7F810000, single(1)], scale(0x7F82)), [0x7FC10000, 0x7FC20000])

    def test_7_of_each_single_and_short(self):
        row = list(ODD_SINGLES)
        for s in ODD_SHORTS:
            self.assertEqual(ran(row, scale(s)), [said_step(0, said_narrow(x), s) for x in row], hex(s))

    def test_8_does_not_narrow(self):
        self.assertEqual(ran([0x3F800001, single(power(-20))], shift(ONE)), [0x40000000, single(1 + power(-20))])
        self.assertEqual(ran([0x40000003], shift(short(-1))), [single(1 + 6 * power(-23))])

    def test_8_of_zeros(self):
        self.assertEqual(ran([SIGN, 0], shift(0x8000)), [SIGN, 0])
        self.assertEqual(ran([SIGN, 0], shift(0)), [0, 0])
        self.assertEqual(ran([0x80000001, 1], shift(0x8001)), [SIGN, 0])
        self.assertEqual(ran([0x3F800001], shift(0x807F)), [0x3F800001])

    def test_8_of_two_NaNs_takes_the_short(self):
        self.assertEqual(ran([0x7F810000, 0xFF800001], shift(0x7F82)), [0x7FC20000, 0x7FC20000])
        self.assertEqual(ran([0xFF800001], shift(ONE)), [0xFFC00001])

    def test_8_of_each_single_and_short(self):
        row = list(ODD_SINGLES)
        for s in ODD_SHORTS:
            self.assertEqual(ran(row, shift(s)), [said_step(x, s, ONE) for x in row], hex(s))


class WithARowPutAside(unittest.TestCase):
    def test_4_puts_it_aside_as_it_is(self):
        row = list(ODD_SINGLES)
        self.assertEqual(ran(row, ASIDE, CLAMP, TAKE_BEHIND), row + [0 if x & SIGN else x for x in row])
        self.assertEqual(ran(row, ASIDE, TAKE_BEHIND, cut(len(row), len(row))), row)

    def test_5_narrows_the_other_and_not_the_row(self):
        self.assertEqual(ran_with_each_pair(ADD, [(single(power(-20)), 0x3F808000)]), [single(1 + power(-20))])
        self.assertEqual(ran_with_each_pair(ADD, [(0x3F808000, single(power(-20)))]), [0x3F808008])
        self.assertEqual(ran_with_each_pair(ADD, [(0, 0x3F808001), (0x3F808001, 0)]), [0x3F810000, 0x3F808001])

    def test_5_of_zeros(self):
        pairs = [(SIGN, SIGN), (SIGN, 0), (0, SIGN), (0x80000001, 0x80000001), (1, 1), (single(1), single(-1))]
        self.assertEqual(ran_with_each_pair(ADD, pairs), [SIGN, 0, 0, SIGN, 0, 0])

    def test_5_of_two_NaNs_takes_the_one_put_aside(self):
        pairs = [(0x7F810000, 0xFF820000), (0x7F810000, 0), (0, 0xFF820000)]
        self.assertEqual(ran_with_each_pair(ADD, pairs), [0xFFC20000, 0x7FC10000, 0xFFC20000])

    def test_5_of_each_two(self):
        expected = [said_step(x, said_narrow(y), ONE) for x, y in EACH_PAIR]
        self.assertEqual(ran_with_each_pair(ADD, EACH_PAIR), expected)

    def test_6_narrows_both(self):
        pairs = [(0x3F808001, single(1)), (single(1), 0x3F808001), (0x3F808000, single(1)), (single(1), 0x3F808000)]
        self.assertEqual(ran_with_each_pair(MULTIPLY, pairs), [0x3F810000, 0x3F810000, 0x3F800000, 0x3F800000])

    def test_6_gives_plus_0(self):
        pairs = [(SIGN, single(1)), (single(-1), 0), (SIGN, SIGN), (0x80000001, single(1)), (0, 0)]
        self.assertEqual(ran_with_each_pair(MULTIPLY, pairs), [0] * 5)

    def test_6_of_two_NaNs_takes_the_rows(self):
        pairs = [(0x7F810000, 0xFF820000), (single(1), 0xFF820000)]
        self.assertEqual(ran_with_each_pair(MULTIPLY, pairs), [0x7FC10000, 0xFFC20000])

    def test_6_of_each_two(self):
        expected = [said_step(0, said_narrow(x), said_narrow(y)) for x, y in EACH_PAIR]
        self.assertEqual(ran_with_each_pair(MULTIPLY, EACH_PAIR), expected)

    def test_the_last_one_first(self):
        # 1 is put aside, then 3, and 7 is here: 7 * 3, and 21 + 1; the other way round it would be 10.
        row = [single(1)]
        layers = [ASIDE, shift(short(2)), ASIDE, shift(short(4))]
        self.assertEqual(ran(row, *layers, MULTIPLY, ADD), [single(22)])
        self.assertEqual(ran(row, *layers, ADD, MULTIPLY), [single(10)])
        self.assertEqual(ran(row, *layers, TAKE_BEHIND, TAKE_BEHIND), [single(1), single(3), single(7)])

    def test_16_rows_aside(self):
        layers = [ASIDE + shift(ONE)] * 16
        self.assertEqual(ran([0], *layers, *[TAKE_BEHIND] * 16), [single(x) for x in range(17)])

    def test_16_rows_of_64_aside(self):
        row = [single(i) for i in range(64)]
        self.assertEqual(ran(row, ASIDE * 16, ADD * 16), [single(17 * i) for i in range(64)])

    def test_what_is_aside_stays_while_the_row_changes(self):
        row = [single(x) for x in (1, 2, 3)]
        wide = told_matrix([[ONE] * 60] * 3, [0] * 60)
        self.assertEqual(ran(row, ASIDE, wide, TAKE_BEHIND), row + [single(6)] * 60)
        self.assertEqual(ran(row, ASIDE, wide, cut(0, 1), TAKE_BEHIND), row + [single(6)])


class OtherRows(unittest.TestCase):
    def test_10_at_both_ends(self):
        row = list(ODD_SINGLES)
        k = len(row)
        self.assertEqual(ran(row, cut(0, k)), row)
        self.assertEqual(ran(row, cut(0, 1)), row[:1])
        self.assertEqual(ran(row, cut(k - 1, 1)), row[-1:])
        self.assertEqual(ran(row, cut(0, k - 1)), row[:-1])
        self.assertEqual(ran(row, cut(1, k - 1)), row[1:])
        self.assertEqual(ran(row, cut(3, 5)), row[3:8])
        self.assertEqual(ran(list(range(64)), cut(63, 1)), [63])
        self.assertEqual(ran(list(range(64)), cut(1, 63)), list(range(1, 64)))

    def test_11_with_rows_of_two_widths(self):
        row = list(ODD_SINGLES)
        for f, m in ((0, 1), (2, 5), (20, 8), (27, 1), (0, 28)):
            part = row[f:f + m]
            layers = [ASIDE, cut(f, m), CHANGE_PLACES]
            self.assertEqual(ran(row, *layers, TAKE_BEHIND), part + row)
            self.assertEqual(ran(row, *layers, CHANGE_PLACES, TAKE_BEHIND), row + part)
            self.assertEqual(ran(row, *layers, CLAMP, TAKE_BEHIND), part + [0 if x & SIGN else x for x in row])

    def test_11_where_the_row_is_the_wider_one(self):
        wide = told_matrix([[ONE] * 5] * 2, [single(j) for j in range(5)])
        row = [single(1), single(2)]
        behind = [single(3 + j) for j in range(5)]
        self.assertEqual(ran(row, ASIDE, wide, CHANGE_PLACES, TAKE_BEHIND), behind + row)
        self.assertEqual(ran(row, ASIDE, wide, TAKE_BEHIND), row + behind)

    def test_11_takes_the_last_alone(self):
        row = [single(x) for x in (1, 2, 3)]
        layers = [ASIDE, cut(1, 2), ASIDE, cut(1, 1), CHANGE_PLACES, TAKE_BEHIND, TAKE_BEHIND]
        self.assertEqual(ran(row, *layers), row + row[2:] + row[1:])

    def test_12_puts_the_row_behind(self):
        row = list(ODD_SINGLES)
        self.assertEqual(ran(row, ASIDE, cut(4, 2), TAKE_BEHIND), row + row[4:6])
        self.assertEqual(ran(list(range(32)), ASIDE, TAKE_BEHIND), list(range(32)) * 2)

    def test_13_each_place(self):
        for width in (1, 2, 3, 64):
            for place in range(width):
                row = [SIGN] * width
                row[place] = 0
                self.assertEqual(ran(row, GREATEST), [single(place)])

    def test_13_the_first_of_several_as_great(self):
        self.assertEqual(ran([single(3)] * 64, GREATEST), [0])
        self.assertEqual(ran([0, single(2), single(3), single(3), single(1), single(3)], GREATEST), [single(2)])
        self.assertEqual(ran([single(-3), single(-2), SIGN, SIGN], GREATEST), [single(2)])

    def test_13_in_the_order_of_bits(self):
        self.assertEqual(ran([SIGN, 0], GREATEST), [single(1)])
        self.assertEqual(ran([0, 1], GREATEST), [single(1)])
        self.assertEqual(ran([0x80000001, SIGN], GREATEST), [single(1)])
        self.assertEqual(ran([INFINITY, 0x7F800001, 0x7FC00000], GREATEST), [single(2)])
        self.assertEqual(ran([0xFFC00000, 0xFF800000, single(-1)], GREATEST), [single(2)])
        self.assertEqual(ran([single(-2), single(-1)], GREATEST), [single(1)])

    def test_13_beside_rows_put_aside(self):
        row = [single(9), single(1), single(2)]
        self.assertEqual(ran(row, ASIDE, cut(1, 2), GREATEST, TAKE_BEHIND), row + [single(1)])


if __name__ == "__main__":
    unittest.main()
