"""The call watch."""

import unittest

from tests.made_nets import (
    ADD, ASIDE, CHANGE_PLACES, CLAMP, END, GREATEST, LOOP_END, TAKE_BEHIND,
    cut, loop, net, scale, shift, told_matrix, use,
)
from tests.words import all_answers, only_answer, short, single

ONE = short(1)
ONE_MORE = shift(ONE)
TWICE = scale(short(2))


def watched(kept, s, row, count):
    """What watch tells behind 0 to count - 1 layers; kept: places with the width and layers of the nets."""
    calls = [(12, place, net(*other, END)) for place, other in kept]
    found = []
    for n in range(count):
        given = all_answers(*calls, (17, s, n, row))
        if given[:-1] != [[0]] * len(kept) or given[-1][0] != 0:
            raise AssertionError(given)
        found.append(given[-1][1:])
    return found


class Watch(unittest.TestCase):
    def test_up_to_the_end_and_beyond(self):
        row = [single(1), single(2)]
        kept = [(3, (2, ONE_MORE, TWICE, ASIDE, GREATEST, CHANGE_PLACES, cut(1, 1), ADD))]
        self.assertEqual(watched(kept, 3, row, 11), [
            [1, 3, 0] + row,
            [1, 3, 1, single(2), single(3)],
            [1, 3, 2, single(4), single(6)],
            [1, 3, 3, single(4), single(6)],
            [1, 3, 4, single(1)],
            [1, 3, 5, single(4), single(6)],
            [1, 3, 6, single(6)],
            [1, 3, 7, single(7)],
            [0, 0, 0, single(7)],
            [0, 0, 0, single(7)],
            [0, 0, 0, single(7)],
        ])

    def test_the_shortest_net(self):
        row = [0x80000001, 0x7F800001]
        self.assertEqual(watched([(0, (2,))], 0, row, 3), [[1, 0, 0] + row, [0, 0, 0] + row, [0, 0, 0] + row])

    def test_layer_1_and_12(self):
        kept = [(0, (1, ASIDE, told_matrix([[ONE, short(2), short(3)]], [0, 0, 0]), TAKE_BEHIND))]
        self.assertEqual(watched(kept, 0, [single(5)], 5), [
            [1, 0, 0, single(5)],
            [1, 0, 1, single(5)],
            [1, 0, 2, single(5), single(10), single(15)],
            [1, 0, 3, single(5), single(5), single(10), single(15)],
            [0, 0, 0, single(5), single(5), single(10), single(15)],
        ])

    def test_within_a_loop(self):
        kept = [(0, (1, loop(3), ONE_MORE, LOOP_END, TWICE))]
        self.assertEqual(watched(kept, 0, [0], 10), [
            [1, 0, 0, 0],
            [1, 0, 1, 0],
            [1, 0, 2, single(1)],
            [1, 0, 1, single(1)],
            [1, 0, 2, single(2)],
            [1, 0, 1, single(2)],
            [1, 0, 2, single(3)],
            [1, 0, 3, single(3)],
            [1, 0, 4, single(6)],
            [0, 0, 0, single(6)],
        ])

    def test_within_loops_in_one_another(self):
        kept = [(0, (1, loop(2), loop(2), LOOP_END, ONE_MORE, LOOP_END))]
        numbers = [(found[2], found[3]) for found in watched(kept, 0, [0], 12)]
        two, one = single(2), single(1)
        self.assertEqual(numbers, [
            (0, 0), (1, 0), (2, 0), (2, 0), (3, 0), (4, one),
            (1, one), (2, one), (2, one), (3, one), (4, two), (5, two),
        ])

    def test_within_a_used_net(self):
        kept = [(1, (1, TWICE, ONE_MORE)), (4, (1, ONE_MORE, use(1, 1), TWICE))]
        self.assertEqual(watched(kept, 4, [single(1)], 9), [
            [1, 4, 0, single(1)],
            [1, 4, 1, single(2)],
            [2, 1, 0, single(2)],
            [2, 1, 1, single(4)],
            [2, 1, 2, single(5)],
            [1, 4, 2, single(5)],
            [1, 4, 3, single(10)],
            [0, 0, 0, single(10)],
            [0, 0, 0, single(10)],
        ])

    def test_a_used_net_as_the_last_layer(self):
        kept = [(0, (2, cut(1, 1))), (7, (2, use(0, 1)))]
        row = [single(1), single(2)]
        self.assertEqual(watched(kept, 7, row, 5), [
            [1, 7, 0] + row, [2, 0, 0] + row, [2, 0, 1, single(2)], [1, 7, 1, single(2)], [0, 0, 0, single(2)],
        ])

    def test_a_used_net_that_uses_another_within_a_loop(self):
        kept = [(0, (1, ONE_MORE)), (2, (1, loop(2), use(0, 1), LOOP_END)), (5, (1, ASIDE, use(2, 1), ADD))]
        zero, one, two = 0, single(1), single(2)
        self.assertEqual(watched(kept, 5, [0], 15), [
            [1, 5, 0, zero], [1, 5, 1, zero], [2, 2, 0, zero], [2, 2, 1, zero], [3, 0, 0, zero], [3, 0, 1, one],
            [2, 2, 2, one], [2, 2, 1, one], [3, 0, 0, one], [3, 0, 1, two], [2, 2, 2, two], [2, 2, 3, two],
            [1, 5, 2, two], [1, 5, 3, two], [0, 0, 0, two],
        ])

    def test_eight_nets_in_one_another(self):
        kept = [(0, (1, ONE_MORE))] + [(place, (1, use(place - 1, 1))) for place in range(1, 8)]
        found = watched(kept, 7, [0], 18)
        self.assertEqual([state[:3] for state in found[:8]], [[1 + n, 7 - n, 0] for n in range(8)])
        self.assertEqual([state[:3] for state in found[8:16]], [[8 - n, n, 1] for n in range(8)])
        self.assertEqual([state[:3] for state in found[16:]], [[0, 0, 0]] * 2)
        self.assertEqual([state[3] for state in found], [0] * 8 + [single(1)] * 10)

    def test_it_has_come_out_behind_as_many_layers_as_tell_says(self):
        kept = [(0, (1, loop(5), ONE_MORE, LOOP_END)), (1, (1, loop(3), use(0, 1), TWICE, LOOP_END, CLAMP))]
        calls = [(12, place, net(*other, END)) for place, other in kept]
        done = all_answers(*calls, (9, 1, net(*kept[1][1], END)))[-1][5]
        # 12 layers of the used net, and 1, 3 * (1 + 12 + 1 + 1), 1, 1 of the other one.
        self.assertEqual(done, 48)
        self.assertEqual(all_answers(*calls, (17, 1, done - 1, [0]))[-1][1:4], [1, 1, 5])
        self.assertEqual(all_answers(*calls, (17, 1, done, [0]))[-1][1:4], [0, 0, 0])

    def test_4096_layers(self):
        keep = (12, 0, net(1, ONE_MORE * 4095, END))
        self.assertEqual(all_answers(keep, (17, 0, 4095, [0]))[1], [0, 1, 0, 4095, single(4095)])
        self.assertEqual(all_answers(keep, (17, 0, 4096, [0]))[1], [0, 0, 0, 0, single(4095)])
        self.assertEqual(all_answers(keep, (17, 0, 4097, [0]))[1], [0, 0, 0, 0, single(4095)])

    def test_n_of_8192_and_above(self):
        keep = (12, 0, net(1, ONE_MORE, END))
        self.assertEqual(all_answers(keep, (17, 0, 8192, [0]))[1], [0, 0, 0, 0, single(1)])
        for n in (8193, 65536, 4294967295):
            self.assertEqual(all_answers(keep, (17, 0, n, [0]))[1], [-21])
            self.assertEqual(all_answers(keep, (17, 0, n, []))[1], [-21])

    def test_not_as_wide(self):
        keep = (12, 0, net(3, cut(0, 2), END))
        for row in ([], [0], [0] * 2, [0] * 4, [0] * 6, [0] * 500):
            for n in (0, 1, 8192):
                self.assertEqual(all_answers(keep, (17, 0, n, row))[1], [-21])

    def test_where_no_net_is_kept(self):
        keep = (12, 2, net(3, END))
        for s in (0, 1, 3, 7, 8, 9, 256, 4294967295):
            for n in (0, 5, 8193):
                for row in ([], [0] * 3):
                    self.assertEqual(only_answer(17, s, n, row), [-20])
                    self.assertEqual(all_answers(keep, (17, s, n, row))[1], [-20])

    def test_it_changes_nothing(self):
        keep = (12, 0, net(1, loop(2), ONE_MORE, LOOP_END, END))
        for n in range(8):
            found = all_answers(keep, (17, 0, n, [0]), (15, 0, [0]), (17, 0, n, [0]), (14, 0))
            self.assertEqual(found[1], found[3])
            self.assertEqual(found[2], [0, single(2)])
            self.assertEqual(found[4], [0] + keep[2])


if __name__ == "__main__":
    unittest.main()
