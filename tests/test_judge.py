import unittest

from tests.made_nets import ASIDE, END, LOOP_END, MARK, cut, loop, matrix_layer, net, two, use
from tests.words import all_answers, only_answer


def judge(bytes_of_net, s=8):
    return only_answer(8, s, bytes_of_net)


class Whole(unittest.TestCase):
    def whole(self, *parts):
        self.assertEqual(judge(net(*parts)), [0])

    def test_the_shortest(self):
        self.whole(1, END)
        self.whole(64, END)

    def test_for_every_place(self):
        for s in range(9):
            self.assertEqual(judge(net(3, [2], END), s), [0])

    def test_each_layer(self):
        self.whole(3, matrix_layer(3, 2), END)
        self.whole(3, [2], [3], END)
        self.whole(3, ASIDE, [5], ASIDE, [6], END)
        self.whole(3, [7, 128, 63], [8, 255, 255], END)
        self.whole(3, cut(0, 3), cut(1, 2), cut(1, 1), END)
        self.whole(3, ASIDE, [11], [5], END)
        self.whole(3, ASIDE, [12], END)
        self.whole(3, [13], END)
        self.whole(3, loop(2), [2], LOOP_END, END)
        self.whole(3, loop(2), LOOP_END, END)

    def test_layer_1_for_the_width_that_comes_to_it(self):
        self.whole(3, matrix_layer(3, 17), matrix_layer(17, 5), matrix_layer(5, 64), matrix_layer(64, 1), END)

    def test_widths_go_with_the_rows(self):
        # 5 aside, 2 here; they change places; 2 and then 5 make 7; the first 4 of these; the place of the greatest.
        self.whole(5, ASIDE, cut(3, 2), [11], [12], cut(0, 7), ASIDE, cut(0, 4), [13], [12], cut(7, 1), END)
        self.whole(5, ASIDE, matrix_layer(5, 3), [11], cut(0, 3), [5], END)

    def test_rows_aside_come_back_last_first(self):
        self.whole(4, ASIDE, cut(0, 3), ASIDE, cut(0, 2), ASIDE, [6], cut(0, 2), [12], cut(0, 4), [5], END)

    def test_layers_11_and_12_take_the_row_put_aside_last(self):
        two_aside = [ASIDE, cut(0, 3), ASIDE, cut(0, 2)]
        self.whole(5, *two_aside, [12], [5], END)
        self.whole(5, *two_aside, [11], cut(0, 3), cut(0, 2), [6], cut(0, 1), [12], cut(0, 5), END)
        self.assertEqual(judge(net(5, *two_aside, [11], cut(0, 4))), [-5, 19])

    def test_a_loop_may_take_what_was_put_aside_before_it(self):
        self.whole(4, ASIDE, loop(3), [5], ASIDE, LOOP_END, [5], END)


class Head(unittest.TestCase):
    def test_fewer_than_6_bytes(self):
        whole = net(1, END)
        for count in range(6):
            self.assertEqual(judge(whole[:count]), [-1, 0])
        self.assertEqual(judge(whole[:6]), [-3, 6])

    def test_other_bytes(self):
        for place in range(4):
            for other in (0, 255, MARK[place] + 1):
                wrong = net(1, END)
                wrong[place] = other
                self.assertEqual(judge(wrong), [-1, 0])

    def test_16384_bytes(self):
        # Of a row of 64 the layer 1 has 2 + 8192 + 256 bytes behind it.
        layers = [matrix_layer(64, 48), matrix_layer(48, 64)]
        filled = net(64, *layers)
        room = 16384 - len(filled) - 1
        self.assertEqual(judge(filled + [7, 0, 0] * (room // 3) + [2] * (room % 3) + END), [0])
        longer = filled + [7, 0, 0] * (room // 3) + [2] * (room % 3 + 1) + END
        self.assertEqual(len(longer), 16385)
        self.assertEqual(judge(longer), [-1, 0])
        self.assertEqual(judge(net(1, END) + [0] * (16384 - 7)), [-8, 7])
        self.assertEqual(judge(net(1, END) + [0] * (16385 - 7)), [-1, 0])
        self.assertEqual(judge(net(1, END) + [0] * (16400 - 7)), [-1, 0])

    def test_the_width_that_goes_in(self):
        for width in (0, 65, 256, 257, 65535):
            self.assertEqual(judge(net(width, END)), [-2, 0])
            self.assertEqual(judge(net(width)), [-2, 0])

    def test_minus_1_comes_first(self):
        wrong = net(0, END)
        wrong[0] = 0
        self.assertEqual(judge(wrong), [-1, 0])

    def test_a_place_above_8(self):
        for s in (9, 10, 4294967295):
            self.assertEqual(judge(net(1, END), s), [-20])
            self.assertEqual(judge([], s), [-20])
            self.assertEqual(judge(net(0), s), [-20])


class LayerBytes(unittest.TestCase):
    def test_no_byte(self):
        self.assertEqual(judge(net(3)), [-3, 6])
        self.assertEqual(judge(net(3, [2])), [-3, 7])
        self.assertEqual(judge(net(3, [7, 0, 0])), [-3, 9])
        self.assertEqual(judge(net(3, matrix_layer(3, 2))), [-3, 6 + len(matrix_layer(3, 2))])

    def test_no_such_layer(self):
        for byte in (16, 17, 128, 255):
            self.assertEqual(judge(net(3, [byte])), [-3, 6])
            self.assertEqual(judge(net(3, [2], [byte], END)), [-3, 7])

    def test_cut_off(self):
        for layer in (matrix_layer(3, 2), matrix_layer(3, 17), [7, 1, 1], [8, 1, 1], use(0, 3), cut(0, 3), loop(2)):
            for count in range(1, len(layer)):
                self.assertEqual(judge(net(3, [2], layer[:count])), [-4, 7])

    def test_layer_1_cut_off_with_a_wrong_m(self):
        for m in (0, 65, 256, 65535):
            self.assertEqual(judge(net(3, [1] + two(m))), [-5, 6])
            self.assertEqual(judge(net(3, [1] + two(m)[:1])), [-4, 6])

    def test_cut_off_comes_before_all_that_is_told(self):
        self.assertEqual(judge(net(3, [9, 0, 0, 0])), [-4, 6])
        self.assertEqual(judge(net(3, [10, 0, 0, 0])), [-4, 6])
        self.assertEqual(judge(net(3, [14])), [-4, 6])


class Widths(unittest.TestCase):
    def test_m(self):
        for m in (0, 65, 256, 65535):
            self.assertEqual(judge(net(3, [2], [1] + two(m), END)), [-5, 7])
            self.assertEqual(judge(net(3, [2], use(0, m), END)), [-5, 7])
            self.assertEqual(judge(net(3, [2], cut(0, m), END)), [-5, 7])
        self.assertEqual(judge(net(64, matrix_layer(64, 64), END)), [0])
        self.assertEqual(judge(net(64, cut(0, 64), END)), [0])

    def test_f_and_m_above_the_width(self):
        self.assertEqual(judge(net(5, cut(0, 6), END)), [-5, 6])
        self.assertEqual(judge(net(5, cut(1, 5), END)), [-5, 6])
        self.assertEqual(judge(net(5, cut(4, 1), END)), [0])
        self.assertEqual(judge(net(5, cut(5, 1), END)), [-5, 6])
        self.assertEqual(judge(net(5, cut(65535, 1), END)), [-5, 6])
        self.assertEqual(judge(net(5, cut(5, 0), END)), [-5, 6])
        self.assertEqual(judge(net(5, cut(256, 1), END)), [-5, 6])

    def test_a_row_of_layer_12(self):
        self.assertEqual(judge(net(32, ASIDE, [12], END)), [0])
        self.assertEqual(judge(net(33, ASIDE, [12], END)), [-5, 7])
        self.assertEqual(judge(net(64, ASIDE, [13], [12], END)), [-5, 8])
        self.assertEqual(judge(net(63, ASIDE, [13], [12], cut(63, 1), END)), [0])
        self.assertEqual(judge(net(63, ASIDE, [13], [11], [12], cut(63, 1), END)), [0])

    def test_widths_that_changed(self):
        self.assertEqual(judge(net(5, [13], cut(0, 2), END)), [-5, 7])
        self.assertEqual(judge(net(5, cut(2, 3), cut(0, 4), END)), [-5, 11])
        self.assertEqual(judge(net(5, ASIDE, cut(0, 2), [12], cut(0, 8), END)), [-5, 13])
        self.assertEqual(judge(net(5, ASIDE, cut(0, 2), [11], cut(0, 6), END)), [-5, 13])
        self.assertEqual(judge(net(5, matrix_layer(5, 2), cut(0, 3), END)), [-5, 6 + len(matrix_layer(5, 2))])

    def test_before_the_aside_and_the_used_net(self):
        self.assertEqual(judge(net(3, use(9, 0), END)), [-5, 6])


class Aside(unittest.TestCase):
    def test_nothing_put_aside(self):
        for layer in (5, 6, 11, 12):
            self.assertEqual(judge(net(3, [2], [layer], END)), [-6, 7])
            self.assertEqual(judge(net(3, ASIDE, [5], [layer], END)), [-6, 8])
            self.assertEqual(judge(net(64, [layer], END)), [-6, 6])

    def test_taken_away_by_5_6_and_12_but_not_by_11(self):
        self.assertEqual(judge(net(3, ASIDE, [5], [5], END)), [-6, 8])
        self.assertEqual(judge(net(3, ASIDE, [6], [6], END)), [-6, 8])
        self.assertEqual(judge(net(3, ASIDE, [12], [12], END)), [-6, 8])
        self.assertEqual(judge(net(3, ASIDE, [11], [11], [5], END)), [0])

    def test_another_width(self):
        for layer in (5, 6):
            self.assertEqual(judge(net(3, ASIDE, cut(0, 2), [layer], END)), [-6, 12])
            self.assertEqual(judge(net(3, ASIDE, matrix_layer(3, 4), [layer], END)), [-6, 7 + len(matrix_layer(3, 4))])
            self.assertEqual(judge(net(3, ASIDE, cut(0, 2), [11], [layer], END)), [-6, 13])
            self.assertEqual(judge(net(3, ASIDE, cut(0, 2), ASIDE, [layer], [layer], END)), [-6, 14])

    def test_a_17th_row(self):
        self.assertEqual(judge(net(3, ASIDE * 16, [5] * 16, END)), [0])
        self.assertEqual(judge(net(3, ASIDE * 17, [5] * 17, END)), [-6, 22])
        self.assertEqual(judge(net(3, ASIDE * 16, [5], ASIDE, [5] * 16, END)), [0])
        self.assertEqual(judge(net(3, ASIDE * 16, [11], ASIDE, END)), [-6, 23])


class Loops(unittest.TestCase):
    def test_r_below_2(self):
        self.assertEqual(judge(net(3, [2], loop(0), LOOP_END, END)), [-7, 7])
        self.assertEqual(judge(net(3, [2], loop(1), LOOP_END, END)), [-7, 7])
        self.assertEqual(judge(net(3, [2], loop(255), LOOP_END, END)), [0])

    def test_256_times(self):
        self.assertEqual(judge(net(3, loop(16), loop(16), LOOP_END, LOOP_END, END)), [0])
        self.assertEqual(judge(net(3, loop(16), loop(17), LOOP_END, LOOP_END, END)), [-7, 8])
        self.assertEqual(judge(net(3, loop(128), loop(2), LOOP_END, LOOP_END, END)), [0])
        self.assertEqual(judge(net(3, loop(129), loop(2), LOOP_END, LOOP_END, END)), [-7, 8])
        self.assertEqual(judge(net(3, loop(2) * 8, LOOP_END * 8, END)), [0])
        self.assertEqual(judge(net(3, loop(2) * 9, LOOP_END * 9, END)), [-7, 22])

    def test_one_behind_another_are_not_multiplied(self):
        self.assertEqual(judge(net(3, loop(255), LOOP_END, loop(255), LOOP_END, END)), [0])
        self.assertEqual(judge(net(3, loop(2), loop(128), LOOP_END, loop(128), LOOP_END, LOOP_END, END)), [0])
        self.assertEqual(judge(net(3, loop(2), loop(128), LOOP_END, loop(129), LOOP_END, LOOP_END, END)), [-7, 11])

    def test_a_15_without_a_14(self):
        self.assertEqual(judge(net(3, LOOP_END, END)), [-7, 6])
        self.assertEqual(judge(net(3, loop(2), LOOP_END, LOOP_END, END)), [-7, 9])

    def test_another_width_at_the_15(self):
        self.assertEqual(judge(net(3, loop(2), cut(0, 2), LOOP_END, END)), [-7, 13])
        self.assertEqual(judge(net(3, loop(2), matrix_layer(3, 4), matrix_layer(4, 3), LOOP_END, END)), [0])
        self.assertEqual(judge(net(3, [13], loop(2), [13], LOOP_END, END)), [0])
        self.assertEqual(judge(net(3, loop(2), [13], loop(2), LOOP_END, LOOP_END, END)), [-7, 12])

    def test_other_widths_aside_at_the_15(self):
        self.assertEqual(judge(net(3, loop(2), ASIDE, LOOP_END, END)), [-7, 9])
        self.assertEqual(judge(net(3, ASIDE, loop(2), [5], LOOP_END, END)), [-7, 10])
        # As many rows aside and the same width here, but a 2 that was put aside has become a 1.
        self.assertEqual(judge(net(2, ASIDE, loop(2), [13], [11], LOOP_END, END)), [-7, 11])

    def test_deeper_widths_aside_at_the_15(self):
        whole = net(2, ASIDE, ASIDE, loop(2), [5], ASIDE, LOOP_END, [5], [5], END)
        self.assertEqual(judge(whole), [0])
        # Below the last row aside a 2 has become a 1.
        changed = net(2, ASIDE, ASIDE, loop(2), [6], [11], [13], [11], ASIDE, LOOP_END, END)
        self.assertEqual(judge(changed), [-7, 15])

    def test_a_0_inside_a_14(self):
        self.assertEqual(judge(net(3, loop(2), END)), [-7, 8])
        self.assertEqual(judge(net(3, loop(2), loop(2), LOOP_END, END)), [-7, 11])

    def test_a_0_with_rows_put_aside(self):
        self.assertEqual(judge(net(3, ASIDE, END)), [-7, 7])
        self.assertEqual(judge(net(3, ASIDE, ASIDE, [5], END)), [-7, 9])

    def test_a_0_comes_before_what_is_behind_it(self):
        self.assertEqual(judge(net(3, ASIDE, END, [2])), [-7, 7])
        self.assertEqual(judge(net(3, loop(2), END, LOOP_END, END)), [-7, 8])


class BehindTheLast(unittest.TestCase):
    def test_bytes_behind_the_0(self):
        self.assertEqual(judge(net(3, END, END)), [-8, 7])
        self.assertEqual(judge(net(3, [2], END, [255, 255])), [-8, 8])


class UsedNets(unittest.TestCase):
    def setUp(self):
        self.calls = []

    def keep(self, place, *parts):
        self.calls.append((12, place, net(*parts)))

    def judge(self, s, *parts):
        found = all_answers(*self.calls, (8, s, net(*parts)))
        self.assertEqual(found[:-1], [[0]] * len(self.calls))
        return found[-1]

    def test_none_is_kept(self):
        for s in range(9):
            for h in (0, 1, 7, 8, 255, 256, 65535):
                self.assertEqual(judge(net(3, [2], use(h, 3), END), s), [-9, 7])

    def test_kept_below(self):
        self.keep(2, 3, matrix_layer(3, 5), END)
        self.assertEqual(self.judge(3, 3, use(2, 5), cut(0, 5), END), [0])
        self.assertEqual(self.judge(8, 3, use(2, 5), END), [0])
        self.assertEqual(self.judge(2, 3, use(2, 5), END), [-9, 6])
        self.assertEqual(self.judge(0, 3, use(2, 5), END), [-9, 6])
        self.assertEqual(self.judge(8, 3, use(1, 5), END), [-9, 6])
        self.assertEqual(self.judge(8, 3, use(3, 5), END), [-9, 6])
        self.assertEqual(self.judge(8, 3, use(2 + 256, 5), END), [-9, 6])

    def test_other_widths(self):
        self.keep(0, 3, matrix_layer(3, 5), END)
        self.assertEqual(self.judge(8, 4, use(0, 5), END), [-9, 6])
        self.assertEqual(self.judge(8, 3, use(0, 3), END), [-9, 6])
        self.assertEqual(self.judge(8, 3, use(0, 4), END), [-9, 6])
        self.assertEqual(self.judge(8, 5, cut(0, 3), use(0, 5), cut(0, 6), END), [-5, 16])

    def test_a_used_net_does_its_layers_too(self):
        self.keep(0, 3, [2] * 14, END)
        # Each use counts 1 and 15; 255 of them are 4,080.
        self.assertEqual(self.judge(8, 3, use(0, 3) * 255, [2] * 15, END), [0])
        self.assertEqual(self.judge(8, 3, use(0, 3) * 255, [2] * 16, END), [-10, 6 + 255 * 5 + 16])
        self.assertEqual(self.judge(8, 3, use(0, 3) * 256, [2], END), [-10, 6 + 256 * 5])
        self.assertEqual(self.judge(8, 3, use(0, 3) * 256, END), [-10, 6 + 256 * 5])
        self.assertEqual(self.judge(8, 3, [2], use(0, 3) * 256, END), [-10, 7 + 255 * 5])

    def test_as_often_as_it_is_done(self):
        self.keep(0, 3, [2] * 13, END)
        # Each use counts 1 and 14, and with it a 15 of the loop: 16 each time.
        self.assertEqual(self.judge(8, 3, loop(240), use(0, 3), LOOP_END, END), [0])
        self.assertEqual(self.judge(8, 3, [2] * 14, loop(255), use(0, 3), LOOP_END, END), [0])
        self.assertEqual(self.judge(8, 3, [2] * 15, loop(255), use(0, 3), LOOP_END, END), [-10, 6 + 15 + 2 + 5 + 1])
        # 1 and 16 for the layers 14, 256 times 15; the 15 would be 256 more.
        self.assertEqual(self.judge(8, 3, loop(16), loop(16), use(0, 3), LOOP_END, LOOP_END, END), [-10, 15])

    def test_nets_within_nets(self):
        self.keep(0, 3, [2] * 7, END)
        self.keep(1, 3, loop(15), use(0, 3), LOOP_END, END)
        # The net at 1 does 1 + 15 * (1 + 8) + 15 + 1 = 152.
        self.assertEqual(self.judge(2, 3, use(1, 3) * 26, [2] * 117, END), [0])
        self.assertEqual(self.judge(2, 3, use(1, 3) * 26, [2] * 118, END), [-10, 6 + 26 * 5 + 118])


class LayersDone(unittest.TestCase):
    def test_4096(self):
        self.assertEqual(judge(net(3, [2] * 4095, END)), [0])
        self.assertEqual(judge(net(3, [2] * 4096, END)), [-10, 6 + 4096])
        self.assertEqual(judge(net(3, [2] * 4097, END)), [-10, 6 + 4096])
        self.assertEqual(judge(net(3, [2] * 16000)), [-10, 6 + 4096])

    def test_in_loops(self):
        # 1 for the 14, 16 times 254 and the 15, 1 for the 0: 4,082.
        self.assertEqual(judge(net(3, [2] * 14, loop(16), [2] * 254, LOOP_END, END)), [0])
        self.assertEqual(judge(net(3, [2] * 15, loop(16), [2] * 254, LOOP_END, END)), [-10, 6 + 15 + 2 + 254 + 1])
        self.assertEqual(judge(net(3, loop(16), [2] * 255, LOOP_END, END)), [-10, 6 + 2 + 255])
        self.assertEqual(judge(net(3, loop(16), [2] * 256, LOOP_END, END)), [-10, 6 + 2 + 255])

    def test_in_loops_within_loops(self):
        # 1 for the outer 14; 2 for the inner one; 200 times 19 layers and a 15; 2 for the outer 15: 4,005.
        layers = [loop(2), loop(100), [2] * 19, LOOP_END, LOOP_END]
        self.assertEqual(judge(net(3, *layers, [2] * 90, END)), [0])
        self.assertEqual(judge(net(3, *layers, [2] * 91, END)), [-10, 6 + 4 + 19 + 2 + 91])
        self.assertEqual(judge(net(3, *layers, [2] * 92, END)), [-10, 6 + 4 + 19 + 2 + 91])

    def test_asked_last(self):
        filled = [[2] * 4096]
        start = 6 + 4096
        self.assertEqual(judge(net(3, *filled)), [-3, start])
        self.assertEqual(judge(net(3, *filled, [16])), [-3, start])
        self.assertEqual(judge(net(3, *filled, [7])), [-4, start])
        self.assertEqual(judge(net(3, *filled, cut(0, 4))), [-5, start])
        self.assertEqual(judge(net(3, *filled, [5])), [-6, start])
        self.assertEqual(judge(net(3, *filled, loop(1))), [-7, start])
        self.assertEqual(judge(net(3, *filled, END, END)), [-8, start + 1])
        self.assertEqual(judge(net(3, *filled, use(0, 3))), [-9, start])
        self.assertEqual(judge(net(3, *filled, [2])), [-10, start])


class AnyBytes(unittest.TestCase):
    def setUp(self):
        self.net = net(5, ASIDE, matrix_layer(5, 3), loop(3), [7, 1, 2], ASIDE, [6], LOOP_END, [12], cut(2, 5), [2],
                       loop(2), loop(4), [3], [8, 3, 4], LOOP_END, LOOP_END, [13], END)

    def test_whatever_is_left_of_a_net_has_a_fault_at_its_end(self):
        self.assertEqual(judge(self.net), [0])
        for count in range(6, len(self.net)):
            code, place = judge(self.net[:count])
            self.assertIn(code, (-3, -4))
            self.assertLessEqual(place, count)
            self.assertEqual(code == -3, place == count)

    def test_with_one_other_byte_it_is_whole_or_has_a_fault(self):
        for place in range(len(self.net)):
            for other in (*range(18), 64, 65, 255):
                changed = list(self.net)
                changed[place] = other
                answer = judge(changed)
                if answer != [0]:
                    self.assertIn(answer[0], range(-10, 0))
                    self.assertLessEqual(answer[1], len(changed))
                    self.assertEqual(len(answer), 2)


class Order(unittest.TestCase):
    def test_an_earlier_layer_comes_first(self):
        self.assertEqual(judge(net(3, use(0, 3), [16])), [-9, 6])
        self.assertEqual(judge(net(3, [5], [16])), [-6, 6])
        self.assertEqual(judge(net(3, [2], END, [16])), [-8, 8])

    def test_5_before_6(self):
        self.assertEqual(judge(net(33, ASIDE * 16, [12], END)), [-5, 22])

    def test_5_before_9(self):
        self.assertEqual(judge(net(3, use(0, 65), END)), [-5, 6])

    def test_4_before_7(self):
        self.assertEqual(judge(net(3, loop(2) * 8, [14])), [-4, 22])


if __name__ == "__main__":
    unittest.main()
