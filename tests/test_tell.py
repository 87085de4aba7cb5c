"""The calls tell and layer."""

import unittest

from tests.made_nets import (
    ADD, ASIDE, CHANGE_PLACES, CLAMP, END, FAULTS, GREATEST, LOOP_END, MULTIPLY, SHORTEN, TAKE_BEHIND,
    cut, loop, matrix_layer, net, scale, shift, use,
)
from tests.words import all_answers, only_answer


def tell(*parts, kept=(), s=8):
    """What is told; kept: places with the width and layers of nets that are kept before."""
    calls = [(12, place, net(*other, END)) for place, other in kept]
    found = all_answers(*calls, (9, s, net(*parts, END)))
    if found[:-1] != [[0]] * len(kept) or found[-1][0] != 0:
        raise AssertionError(found)
    return found[-1][1:]


def need(*parts, kept=()):
    return tell(*parts, kept=kept)[2]


class Tell(unittest.TestCase):
    def test_the_five_numbers(self):
        self.assertEqual(tell(5), [5, 5, 5, 1, 1])
        self.assertEqual(tell(64), [64, 64, 64, 1, 1])
        self.assertEqual(tell(5, CLAMP, cut(1, 3), SHORTEN), [5, 3, 5, 4, 4])
        self.assertEqual(tell(5, matrix_layer(5, 2), loop(3), CLAMP, LOOP_END), [5, 2, 7, 5, 9])

    def test_alone_in_the_answer(self):
        self.assertEqual(only_answer(9, 0, net(3, END)), [0, 3, 3, 3, 1, 1])

    def test_layers_once_and_layers_done(self):
        self.assertEqual(tell(3, CLAMP * 4095)[3:], [4096, 4096])
        self.assertEqual(tell(3, loop(255), LOOP_END)[3:], [3, 257])
        layers = [loop(2), loop(3), CLAMP, LOOP_END, CLAMP, LOOP_END]
        self.assertEqual(tell(3, *layers)[3:], [7, 1 + 2 + 6 + 6 + 2 + 2 + 1])
        self.assertEqual(tell(3, loop(2) * 8, CLAMP, LOOP_END * 8)[3:], [18, 255 + 256 + 510 + 1])

    def test_layers_done_by_used_nets(self):
        kept = [(0, (3, CLAMP * 4)), (1, (3, use(0, 3), loop(2), use(0, 3), LOOP_END))]
        # Of 0: 5. Of 1: 6, 1, 2 * 6, 2, 1: 22.
        self.assertEqual(tell(3, use(0, 3), kept=kept)[3:], [2, 7])
        self.assertEqual(tell(3, use(1, 3), kept=kept)[3:], [2, 24])
        self.assertEqual(tell(3, loop(10), use(1, 3), CLAMP, LOOP_END, kept=kept)[3:], [5, 1 + 230 + 10 + 10 + 1])

    def test_the_need_before_and_behind_layers(self):
        self.assertEqual(need(5, cut(0, 1)), 5)
        self.assertEqual(need(5, GREATEST), 5)
        self.assertEqual(need(5, ASIDE, ADD), 10)
        self.assertEqual(need(5, ASIDE, ADD, cut(0, 3), ASIDE, ASIDE, ADD, ADD), 10)
        self.assertEqual(need(5, ASIDE, cut(0, 2), TAKE_BEHIND), 10)
        self.assertEqual(need(5, cut(0, 2), ASIDE, TAKE_BEHIND), 5)
        self.assertEqual(need(5, cut(0, 3), ASIDE, TAKE_BEHIND), 6)
        self.assertEqual(need(5, ASIDE, GREATEST, CHANGE_PLACES, TAKE_BEHIND), 10)
        self.assertEqual(need(64, ASIDE * 16, MULTIPLY * 16), 17 * 64)

    def test_the_need_of_layer_1(self):
        self.assertEqual(need(5, matrix_layer(5, 1)), 6)
        self.assertEqual(need(5, matrix_layer(5, 9)), 14)
        self.assertEqual(need(5, matrix_layer(5, 5)), 10)
        self.assertEqual(need(5, ASIDE, matrix_layer(5, 9), TAKE_BEHIND), 19)
        self.assertEqual(need(5, ASIDE, ASIDE, matrix_layer(5, 9), TAKE_BEHIND, TAKE_BEHIND), 24)
        self.assertEqual(need(64, matrix_layer(64, 64)), 128)

    def test_no_new_width_beside_at_other_layers(self):
        self.assertEqual(need(5, CLAMP, SHORTEN, scale(1), shift(1), cut(0, 4), loop(2), LOOP_END, GREATEST), 5)
        self.assertEqual(need(5, ASIDE, CHANGE_PLACES, MULTIPLY), 10)

    def test_the_need_of_layer_9_by_the_new_width(self):
        kept = [(0, (5, cut(0, 1))), (1, (5, cut(0, 5)))]
        self.assertEqual(need(5, use(0, 1), kept=kept), 6)
        self.assertEqual(need(5, use(1, 5), kept=kept), 10)
        self.assertEqual(need(5, ASIDE, use(1, 5), ADD, kept=kept), 15)

    def test_the_need_of_layer_9_by_the_used_nets_need(self):
        kept = [(0, (5, ASIDE * 4, ADD * 4)), (1, (5, use(0, 5)))]
        self.assertEqual(need(5, use(0, 5), kept=kept), 25)
        self.assertEqual(need(5, ASIDE, use(0, 5), ADD, kept=kept), 30)
        self.assertEqual(need(5, ASIDE, ASIDE, use(1, 5), ADD, ADD, kept=kept), 35)
        self.assertEqual(need(5, ASIDE, ADD, use(1, 5), kept=kept), 25)

    def test_the_need_of_a_loop_is_not_multiplied(self):
        self.assertEqual(need(5, loop(9), ASIDE, ADD, LOOP_END), 10)

    def test_the_greatest_of_all_be_it_early_or_late(self):
        self.assertEqual(need(9, ASIDE, ADD, cut(0, 1), matrix_layer(1, 2)), 18)
        self.assertEqual(need(2, cut(0, 1), matrix_layer(1, 9), ASIDE, ADD), 18)

    def test_a_net_that_is_not_whole(self):
        for made, fault in FAULTS:
            self.assertEqual(only_answer(9, 8, made), fault)

    def test_for_a_place(self):
        kept = (12, 2, net(3, END))
        made = net(3, use(2, 3), END)
        for s in range(9):
            expected = [0, 3, 3, 6, 2, 3] if s > 2 else [-9, 6]
            self.assertEqual(all_answers(kept, (9, s, made))[1], expected)
        for s in (9, 4294967295):
            self.assertEqual(only_answer(9, s, net(3, END)), [-20])
            self.assertEqual(only_answer(9, s, []), [-20])


class EachLayer(unittest.TestCase):
    def layers(self, made, count, kept=()):
        calls = [(12, place, net(*other, END)) for place, other in kept]
        found = []
        for i in range(count):
            answer = all_answers(*calls, (10, 8, i, made))[-1]
            self.assertEqual(answer[0], 0)
            found.append(tuple(answer[1:]))
        self.assertEqual(all_answers(*calls, (10, 8, count, made))[-1], [-21])
        return found

    def test_each_number(self):
        matrix = matrix_layer(5, 20)
        size = len(matrix)
        made = net(5, ASIDE, matrix, ASIDE, CLAMP, cut(2, 7), CHANGE_PLACES, TAKE_BEHIND, use(3, 2), TAKE_BEHIND,
                   loop(2), scale(7), SHORTEN, ASIDE, MULTIPLY, LOOP_END, ASIDE, ADD, shift(9), GREATEST, END)
        self.assertEqual(self.layers(made, 20, [(3, (27, cut(0, 2)))]), [
            (6, 4, 5, 5, 0), (7, 1, 5, 20, 1), (7 + size, 4, 20, 20, 1), (8 + size, 2, 20, 20, 2),
            (9 + size, 10, 20, 7, 2), (14 + size, 11, 7, 20, 2), (15 + size, 12, 20, 27, 2), (16 + size, 9, 27, 2, 1),
            (21 + size, 12, 2, 7, 1), (22 + size, 14, 7, 7, 0), (24 + size, 7, 7, 7, 0), (27 + size, 3, 7, 7, 0),
            (28 + size, 4, 7, 7, 0), (29 + size, 6, 7, 7, 1), (30 + size, 15, 7, 7, 0), (31 + size, 4, 7, 7, 0),
            (32 + size, 5, 7, 7, 1), (33 + size, 8, 7, 7, 0), (36 + size, 13, 7, 1, 0), (37 + size, 0, 1, 1, 0),
        ])

    def test_the_last_layer_and_beyond(self):
        self.assertEqual(only_answer(10, 0, 0, net(64, END)), [0, 6, 0, 64, 64, 0])
        for i in (1, 2, 4294967295):
            self.assertEqual(only_answer(10, 0, i, net(64, END)), [-21])
        self.assertEqual(only_answer(10, 0, 4095, net(3, CLAMP * 4095, END)), [0, 4101, 0, 3, 3, 0])
        self.assertEqual(only_answer(10, 0, 4096, net(3, CLAMP * 4095, END)), [-21])

    def test_rows_put_aside(self):
        made = net(3, ASIDE * 16, ADD * 16, END)
        for i in range(33):
            self.assertEqual(only_answer(10, 0, i, made)[5], i if i <= 16 else 32 - i)

    def test_a_net_that_is_not_whole_comes_before_a_layer_that_is_not_there(self):
        for made, fault in FAULTS:
            for i in (0, 5000):
                self.assertEqual(only_answer(10, 8, i, made), fault)

    def test_for_a_place(self):
        kept = (12, 2, net(3, END))
        made = net(3, use(2, 3), END)
        for s in range(9):
            expected = [0, 6, 9, 3, 3, 0] if s > 2 else [-9, 6]
            self.assertEqual(all_answers(kept, (10, s, 0, made))[1], expected)
        for s in (9, 4294967295):
            self.assertEqual(only_answer(10, s, 0, net(3, END)), [-20])
            self.assertEqual(only_answer(10, s, 9, []), [-20])


if __name__ == "__main__":
    unittest.main()
