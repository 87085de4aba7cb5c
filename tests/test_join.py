"""The call join."""

import unittest

from tests.made_nets import (
    ADD, ASIDE, CLAMP, END, FAULTS, GREATEST, LOOP_END, SHORTEN, cut, loop, matrix_layer, net, scale, shift, use,
)
from tests.words import all_answers, only_answer, short, single

WHOLE = net(3, END)


def join(a, b, s=8):
    return only_answer(11, s, a, b)


class Join(unittest.TestCase):
    def test_the_bytes(self):
        self.assertEqual(join(WHOLE, WHOLE), [0] + WHOLE)
        self.assertEqual(join(net(3, CLAMP, END), net(3, SHORTEN, END)), [0] + net(3, CLAMP, SHORTEN, END))
        a = net(3, matrix_layer(3, 5), END)
        b = net(5, cut(1, 2), GREATEST, END)
        self.assertEqual(join(a, b), [0] + net(3, matrix_layer(3, 5), cut(1, 2), GREATEST, END))

    def test_it_does_what_both_do(self):
        a = net(2, shift(short(1)), loop(3), ASIDE, ADD, LOOP_END, END)
        b = net(2, scale(short(3)), ASIDE, cut(1, 1), [12], END)
        joined = join(a, b)[1:]
        row = [single(1), single(2)]
        found = all_answers((12, 0, a), (12, 1, b), (12, 2, joined), (15, 0, row), (15, 2, row))
        between = found[3][1:]
        self.assertEqual(between, [single(16), single(24)])
        expected = [0, single(48), single(72), single(72)]
        self.assertEqual(found[4], expected)
        self.assertEqual(all_answers((12, 1, b), (15, 1, between))[1], expected)
        self.assertEqual(only_answer(9, 0, joined)[5], only_answer(9, 0, a)[5] + only_answer(9, 0, b)[5] - 1)

    def test_it_uses_the_nets_that_both_use(self):
        kept = (12, 2, net(3, shift(short(1)), END))
        a = net(3, use(2, 3), END)
        for s in range(9):
            expected = [0] + net(3, use(2, 3), use(2, 3), END) if s > 2 else [-9, 6]
            self.assertEqual(all_answers(kept, (11, s, a, a))[1], expected)
            expected = [0] + net(3, CLAMP, use(2, 3), END) if s > 2 else [-19, 6]
            self.assertEqual(all_answers(kept, (11, s, net(3, CLAMP, END), a))[1], expected)

    def test_a_is_not_whole(self):
        for made, fault in FAULTS:
            self.assertEqual(join(made, WHOLE), fault)
            self.assertEqual(join(made, net(4, END)), fault)
            self.assertEqual(join(made, []), fault)

    def test_b_is_not_whole(self):
        for made, (code, place) in FAULTS:
            self.assertEqual(join(WHOLE, made), [code - 10, place])
            self.assertEqual(join(net(4, END), made), [code - 10, place])
            # The place is b's own, however long a is.
            self.assertEqual(join(net(3, CLAMP * 9, END), made), [code - 10, place])

    def test_another_width(self):
        self.assertEqual(join(net(3, END), net(4, END)), [-21])
        self.assertEqual(join(net(4, END), net(3, END)), [-21])
        self.assertEqual(join(net(4, cut(0, 3), END), net(4, cut(0, 3), END)), [-21])
        self.assertEqual(join(net(4, cut(0, 3), END), net(3, END)), [0] + net(4, cut(0, 3), END))

    def test_above_16384_bytes(self):
        matrix = matrix_layer(64, 60)
        a = net(64, matrix, END)
        room = 16384 - len(a) + 1
        filled = net(60, matrix_layer(60, 56))
        fill = room - (len(filled) - 6) - 1
        b = filled + scale(1) * (fill // 3) + CLAMP * (fill % 3) + END
        found = join(a, b)
        self.assertEqual((found[0], len(found)), (0, 16385))
        longer = filled + scale(1) * (fill // 3) + CLAMP * (fill % 3 + 1) + END
        self.assertEqual(only_answer(8, 0, longer), [0])
        self.assertEqual(join(a, longer), [-1, 0])

    def test_above_4096_layers(self):
        a = net(3, CLAMP * 2000, END)
        b = net(3, SHORTEN * 2095, END)
        self.assertEqual(join(a, b), [0] + net(3, CLAMP * 2000, SHORTEN * 2095, END))
        self.assertEqual(join(a, net(3, SHORTEN * 2096, END)), [-10, 6 + 4096])
        self.assertEqual(join(a, net(3, SHORTEN * 2099, END)), [-10, 6 + 4096])
        self.assertEqual(join(a, net(3, scale(1) * 2099, END)), [-10, 6 + 2000 + 3 * 2096])
        # 3,900 layers done in the loop with its 15, one for its 14.
        b = net(3, loop(150), CLAMP * 25, LOOP_END, END)
        self.assertEqual(join(net(3, CLAMP * 194, END), b)[0], 0)
        self.assertEqual(join(net(3, CLAMP * 195, END), b), [-10, 6 + 195 + 2 + 25 + 1])

    def test_bytes_come_before_layers(self):
        a = net(64, matrix_layer(64, 64), CLAMP * 2000, END)
        b = net(64, CLAMP * 2097, matrix_layer(64, 32), END)
        self.assertEqual(join(a, b), [-1, 0])

    def test_a_place_above_8(self):
        for s in (9, 4294967295):
            self.assertEqual(join(WHOLE, WHOLE, s), [-20])
            self.assertEqual(join([], WHOLE, s), [-20])
            self.assertEqual(join(WHOLE, [], s), [-20])
            self.assertEqual(join(WHOLE, net(4, END), s), [-20])

    def test_nothing_is_kept_by_it(self):
        found = all_answers((11, 0, WHOLE, WHOLE), (14, 0), (12, 0, net(5, END)), (11, 0, WHOLE, WHOLE), (14, 0))
        self.assertEqual(found[1::3], [[-20], [0] + net(5, END)])


if __name__ == "__main__":
    unittest.main()
