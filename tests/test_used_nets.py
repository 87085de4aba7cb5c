"""Layer 9 by runs: nets that other nets use."""

import unittest

from tests.made_nets import (
    ADD, ASIDE, END, GREATEST, LOOP_END, MULTIPLY, TAKE_BEHIND, cut, loop, net, scale, shift, told_matrix, use,
)
from tests.words import all_answers, short, single

ONE = short(1)
ONE_MORE = shift(ONE)
TWICE = scale(short(2))


def ran(nets, s, row):
    """nets: by place the width and layers of each, in the order in which they're kept."""
    calls = [(12, place, net(*nets[place], END)) for place in nets]
    found = all_answers(*calls, (15, s, row))
    if found[:-1] != [[0]] * len(nets) or found[-1][0] != 0:
        raise AssertionError(found)
    return found[-1][1:]


class UsedNets(unittest.TestCase):
    def test_what_comes_out_is_the_row(self):
        nets = {0: (1, ONE_MORE), 1: (1, TWICE, use(0, 1), TWICE)}
        self.assertEqual(ran(nets, 1, [single(5)]), [single(22)])

    def test_the_row_goes_in_as_it_is(self):
        row = [0x80000001, 0x7F800001, 0x3F808001, 0xFFFFFFFF]
        self.assertEqual(ran({3: (4,), 5: (4, use(3, 4))}, 5, row), row)

    def test_another_width_comes_out(self):
        wide = told_matrix([[ONE, short(2), short(3)], [0, ONE, 0]], [0, 0, single(1)])
        nets = {0: (2, wide), 2: (3, GREATEST), 4: (2, use(0, 3), ASIDE, use(2, 1), TAKE_BEHIND)}
        self.assertEqual(ran(nets, 4, [single(1), single(5)]), [single(x) for x in (1, 7, 4, 1)])

    def test_a_net_that_uses_a_net_that_uses_another(self):
        nets = {1: (1, ONE_MORE), 3: (1, use(1, 1), TWICE), 6: (1, use(3, 1), use(3, 1), ONE_MORE)}
        self.assertEqual(ran(nets, 6, [single(1)]), [single(11)])

    def test_each_place_uses_the_one_below(self):
        nets = {0: (1, ONE_MORE)}
        for place in range(1, 8):
            nets[place] = (1, use(place - 1, 1), TWICE, ONE_MORE)
        # x + 1, then seven times doubled and one more.
        self.assertEqual(ran(nets, 7, [0]), [single(255)])

    def test_each_place_uses_the_one_below_twice(self):
        nets = {0: (1, ONE_MORE)}
        for place in range(1, 8):
            nets[place] = (1, use(place - 1, 1) * 2)
        self.assertEqual(ran(nets, 7, [single(3)]), [single(131)])

    def test_the_same_net_twice(self):
        nets = {0: (1, TWICE, ONE_MORE), 1: (1, use(0, 1), use(0, 1))}
        self.assertEqual(ran(nets, 1, [single(1)]), [single(7)])

    def test_two_nets_in_their_order(self):
        nets = {0: (1, TWICE), 1: (1, ONE_MORE), 2: (1, use(0, 1), use(1, 1)), 3: (1, use(1, 1), use(0, 1))}
        self.assertEqual(ran(nets, 2, [single(5)]), [single(11)])
        self.assertEqual(ran(nets, 3, [single(5)]), [single(12)])

    def test_within_a_loop(self):
        nets = {0: (1, loop(3), ONE_MORE, LOOP_END), 1: (1, loop(4), use(0, 1), TWICE, LOOP_END)}
        # Each time 3 more and doubled: 6, 18, 42, 90.
        self.assertEqual(ran(nets, 1, [0]), [single(90)])

    def test_loops_within_loops_of_used_nets(self):
        nets = {0: (1, loop(4), ONE_MORE, LOOP_END), 1: (1, loop(5), loop(3), use(0, 1), LOOP_END, LOOP_END)}
        self.assertEqual(ran(nets, 1, [0]), [single(60)])

    def test_rows_put_aside_by_both(self):
        # The used net makes x * x + x of x; the other one puts x aside before and adds it behind.
        nets = {0: (2, ASIDE, ASIDE, MULTIPLY, ADD), 1: (2, ASIDE, use(0, 2), ADD)}
        self.assertEqual(ran(nets, 1, [single(3), single(5)]), [single(15), single(35)])

    def test_16_rows_put_aside_by_each_of_three(self):
        layers = (ASIDE * 16, ADD * 16)
        nets = {0: (2, *layers)}
        nets[1] = (2, ASIDE * 16, use(0, 2), ADD * 16)
        nets[2] = (2, ASIDE * 16, use(1, 2), ADD * 16)
        # The row and 16 times it, and that for each of the nets by itself: 17 + 16 + 16.
        self.assertEqual(ran(nets, 2, [single(1), single(2)]), [single(49), single(98)])

    def test_a_net_judged_for_8_may_use_each_place(self):
        nets = {place: (place + 1, cut(place, 1)) for place in range(8)}
        calls = [(12, place, net(*nets[place], END)) for place in nets]
        for h in range(8):
            made = net(h + 1, use(h, 1), END)
            told = all_answers(*calls, (8, 8, made), (9, 8, made), (8, h + 1, made), (8, h, made))
            self.assertEqual(told[8:], [[0], [0, h + 1, 1, h + 2, 2, 4], [0], [-9, 6]])
            self.assertEqual(ran(nets, h, list(range(h + 1))), [h])

    def test_the_used_net_is_the_one_that_is_kept_now(self):
        first = net(1, ONE_MORE, END)
        second = net(1, TWICE, END)
        using = net(1, use(0, 1), END)
        calls = [(12, 0, first), (12, 1, using), (15, 1, [single(5)])]
        calls += [(12, 0, second), (15, 1, [single(5)]), (12, 1, using), (15, 1, [single(5)])]
        self.assertEqual(all_answers(*calls), [[0], [0], [0, single(6)], [0], [-20], [0], [0, single(10)]])


if __name__ == "__main__":
    unittest.main()
