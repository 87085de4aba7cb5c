"""Layers 14 and 15 by runs."""

import unittest

from tests.made_nets import (
    ADD, ASIDE, CHANGE_PLACES, END, LOOP_END, MULTIPLY, TAKE_BEHIND, cut, loop, net, scale, shift,
)
from tests.words import all_answers, short, single

ONE = short(1)
TWICE = scale(short(2))
ONE_MORE = shift(ONE)


def ran(row, *layers):
    kept, found = all_answers((12, 0, net(len(row), *layers, END)), (15, 0, row))
    if kept != [0] or found[0] != 0:
        raise AssertionError((kept, found))
    return found[1:]


class Loops(unittest.TestCase):
    def test_r_times_in_all(self):
        for r in (2, 3, 4, 5, 17, 254, 255):
            self.assertEqual(ran([0], loop(r), ONE_MORE, LOOP_END), [single(r)])

    def test_the_row_stays_at_14_and_15(self):
        row = [0x80000001, 0x7F800001, 0xFFFFFFFF, 1]
        self.assertEqual(ran(row, loop(3), LOOP_END), row)
        self.assertEqual(ran(row, loop(16), loop(16), LOOP_END, LOOP_END), row)

    def test_layers_in_their_order(self):
        # ((0 + 1) * 2 + 1) * 2 ..
        self.assertEqual(ran([0], loop(5), ONE_MORE, TWICE, LOOP_END), [single(62)])
        self.assertEqual(ran([0], loop(5), TWICE, ONE_MORE, LOOP_END), [single(31)])

    def test_what_stands_before_and_behind_is_done_once(self):
        self.assertEqual(ran([0], ONE_MORE, loop(3), TWICE, LOOP_END, ONE_MORE), [single(9)])

    def test_one_behind_another(self):
        self.assertEqual(ran([0], loop(3), ONE_MORE, LOOP_END, loop(2), TWICE, LOOP_END), [single(12)])

    def test_one_within_another(self):
        self.assertEqual(ran([0], loop(3), loop(5), ONE_MORE, LOOP_END, LOOP_END), [single(15)])
        # Each time twice one more and then doubled: 4, 12, 28.
        self.assertEqual(ran([0], loop(3), loop(2), ONE_MORE, LOOP_END, TWICE, LOOP_END), [single(28)])
        # Each time doubled and then twice one more: 2, 6, 14.
        self.assertEqual(ran([0], loop(3), TWICE, loop(2), ONE_MORE, LOOP_END, LOOP_END), [single(14)])

    def test_two_within_one(self):
        # Each time 3 more and doubled twice: 12, 60.
        layers = [loop(2), loop(3), ONE_MORE, LOOP_END, loop(2), TWICE, LOOP_END, LOOP_END]
        self.assertEqual(ran([0], *layers), [single(60)])

    def test_256_times_by_nesting(self):
        self.assertEqual(ran([0], loop(16), loop(16), ONE_MORE, LOOP_END, LOOP_END), [single(256)])
        self.assertEqual(ran([0], loop(128), loop(2), ONE_MORE, LOOP_END, LOOP_END), [single(256)])
        self.assertEqual(ran([0], loop(2), loop(128), ONE_MORE, LOOP_END, LOOP_END), [single(256)])
        self.assertEqual(ran([0], loop(2) * 8, ONE_MORE, LOOP_END * 8), [single(256)])

    def test_a_row_put_aside_and_taken_away_within(self):
        self.assertEqual(ran([single(1)], loop(7), ASIDE, ADD, LOOP_END), [single(128)])
        self.assertEqual(ran([single(2)], loop(4), ASIDE, MULTIPLY, LOOP_END), [single(65536)])

    def test_a_row_put_aside_before_is_taken_away_and_put_aside_again_within(self):
        # The row and the one put aside, which becomes the sum each time: 1 + 1, 2 + 2, 4 + 4.
        self.assertEqual(ran([single(1)], ASIDE, loop(3), ADD, ASIDE, LOOP_END, TAKE_BEHIND), [single(8)] * 2)
        self.assertEqual(ran([single(2)], ASIDE, loop(2), MULTIPLY, ASIDE, LOOP_END, ADD), [single(32)])

    def test_rows_of_two_widths_change_places_within(self):
        row = [single(1), single(2), single(3)]
        layers = [ASIDE, cut(0, 1), loop(2), CHANGE_PLACES, ONE_MORE, CHANGE_PLACES, LOOP_END, TAKE_BEHIND]
        self.assertEqual(ran(row, *layers), [single(3), single(4), single(5), single(1)])

    def test_another_width_within(self):
        row = [single(1), single(2)]
        # The first is put behind the row, and the row without its first stays.
        layers = [loop(3), ASIDE, cut(0, 1), TAKE_BEHIND, cut(1, 2), LOOP_END]
        self.assertEqual(ran(row, *layers), [single(2), single(1)])

    def test_a_net_is_run_twice_alike(self):
        made = net(1, loop(3), loop(2), ONE_MORE, LOOP_END, LOOP_END, END)
        calls = [(12, 0, made), (15, 0, [0]), (15, 0, [0]), (16, 0, [0, single(1)])]
        self.assertEqual(all_answers(*calls), [[0], [0, single(6)], [0, single(6)], [0, single(6), single(7)]])


if __name__ == "__main__":
    unittest.main()
