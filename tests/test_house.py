"""The calls keep, drop and kept."""

import unittest

from tests.made_nets import CLAMP, END, FAULTS, SHORTEN, matrix_layer, net, scale, shift, two, use
from tests.words import all_answers, short

NETS = [net(3, CLAMP * place, END) for place in range(8)]
FILL = [(12, place, NETS[place]) for place in range(8)]
LOOK = [(14, place) for place in range(8)]


def kept_behind(*calls):
    """What is answered to calls; and by place the net that is kept behind them, None where none is."""
    found = all_answers(*calls, *LOOK)
    nets = []
    for answer in found[-8:]:
        if answer[0] == 0:
            nets.append(answer[1:])
        elif answer == [-20]:
            nets.append(None)
        else:
            raise AssertionError(answer)
    return found[:-8], nets


class Keep(unittest.TestCase):
    def test_an_empty_house(self):
        self.assertEqual(kept_behind(), ([], [None] * 8))

    def test_each_place_by_itself(self):
        for s in range(8):
            found, nets = kept_behind((12, s, NETS[s]))
            self.assertEqual(found, [[0]])
            self.assertEqual(nets, [None] * s + [NETS[s]] + [None] * (7 - s))

    def test_all_places(self):
        self.assertEqual(kept_behind(*FILL), ([[0]] * 8, NETS))

    def test_places_above_are_gone_and_those_below_stay(self):
        other = net(5, SHORTEN, END)
        for s in range(8):
            found, nets = kept_behind(*FILL, (12, s, other))
            self.assertEqual(found, [[0]] * 9)
            self.assertEqual(nets, NETS[:s] + [other] + [None] * (7 - s))

    def test_the_same_net_again_makes_those_above_gone_too(self):
        for s in range(8):
            found, nets = kept_behind(*FILL, (12, s, NETS[s]))
            self.assertEqual(nets, NETS[:s + 1] + [None] * (7 - s))

    def test_with_gaps(self):
        found, nets = kept_behind((12, 6, NETS[6]), (12, 2, NETS[2]), (12, 4, NETS[4]))
        self.assertEqual(nets, [None, None, NETS[2], None, NETS[4], None, None, None])

    def test_the_very_bytes(self):
        for made in (net(3, matrix_layer(3, 17), END), net(64, scale(0xFFFF), shift(0x8001), END), net(1, END)):
            self.assertEqual(kept_behind((12, 5, made))[1][5], made)

    def test_a_long_net(self):
        made = net(64, matrix_layer(64, 48), matrix_layer(48, 64))
        made += CLAMP * (16383 - len(made)) + END
        self.assertEqual(len(made), 16384)
        self.assertEqual(all_answers((12, 7, made), (14, 7)), [[0], [0] + made])

    def test_it_is_judged_for_its_place(self):
        for h in range(8):
            for s in range(8):
                using = net(3, use(h, 3), END)
                found, nets = kept_behind(*FILL, (12, s, using))
                if h < s:
                    self.assertEqual((found[-1], nets), ([0], NETS[:s] + [using] + [None] * (7 - s)))
                else:
                    self.assertEqual((found[-1], nets), ([-9, 6], NETS))

    def test_a_net_above_is_gone_with_the_one_that_it_uses(self):
        using = net(3, use(1, 3), END)
        calls = [(12, 1, NETS[1]), (12, 4, using), (12, 1, net(3, END)), (15, 4, [0] * 3), (12, 4, using)]
        found, nets = kept_behind(*calls)
        self.assertEqual(found, [[0], [0], [0], [-20], [0]])
        self.assertEqual(nets, [None, net(3, END), None, None, using, None, None, None])

    def test_a_net_above_is_gone_and_may_not_fit_any_more(self):
        using = net(3, use(1, 3), END)
        calls = [(12, 1, NETS[1]), (12, 4, using), (12, 1, net(4, END)), (12, 4, using)]
        self.assertEqual(all_answers(*calls), [[0], [0], [0], [-9, 6]])

    def test_refused_it_leaves_the_house_as_it_was(self):
        for s in range(8):
            for made, fault in FAULTS:
                if fault[0] != -9:
                    found, nets = kept_behind(*FILL, (12, s, made))
                    self.assertEqual((found[-1], nets), (fault, NETS))
            found, nets = kept_behind(*FILL, (12, s, net(3, use(7, 3), END)))
            self.assertEqual((found[-1], nets), ([-9, 6], NETS))

    def test_places_8_and_above(self):
        for s in (8, 9, 255, 256, 4294967295):
            for made in (NETS[0], [], net(3, use(7, 3), END)):
                found, nets = kept_behind(*FILL, (12, s, made))
                self.assertEqual((found[-1], nets), ([-20], NETS))
                self.assertEqual(kept_behind((12, s, made)), ([[-20]], [None] * 8))

    def test_its_bytes_are_its_own(self):
        # What is judged, told or joined behind it is another net.
        other = net(5, SHORTEN, END)
        calls = [(12, 0, NETS[3]), (8, 8, other), (9, 8, other), (10, 8, 0, other), (11, 8, other, other)]
        self.assertEqual(kept_behind(*calls)[1], [NETS[3]] + [None] * 7)


class Drop(unittest.TestCase):
    def test_it_and_those_above_are_gone_and_those_below_stay(self):
        for s in range(8):
            found, nets = kept_behind(*FILL, (13, s))
            self.assertEqual((found[-1], nets), ([0], NETS[:s] + [None] * (8 - s)))

    def test_where_none_is_kept(self):
        for s in range(8):
            self.assertEqual(kept_behind((13, s)), ([[-20]], [None] * 8))

    def test_refused_it_leaves_the_house_as_it_was(self):
        calls = [(12, 1, NETS[1]), (12, 4, NETS[4]), (12, 6, NETS[6])]
        there = [None, NETS[1], None, None, NETS[4], None, NETS[6], None]
        for s in (0, 2, 3, 5, 7, 8, 9, 256, 4294967295):
            found, nets = kept_behind(*calls, (13, s))
            self.assertEqual((found[-1], nets), ([-20], there))

    def test_twice(self):
        found, nets = kept_behind(*FILL, (13, 4), (13, 4), (13, 6), (13, 3))
        self.assertEqual((found[8:], nets), ([[0], [-20], [-20], [0]], NETS[:3] + [None] * 5))

    def test_kept_again_behind_it(self):
        found, nets = kept_behind(*FILL, (13, 2), (12, 5, NETS[1]))
        self.assertEqual((found[8:], nets), ([[0], [0]], NETS[:2] + [None] * 3 + [NETS[1], None, None]))

    def test_what_is_gone_is_not_used(self):
        using = net(3, use(5, 3), END)
        found = all_answers(*FILL, (8, 8, using), (13, 5), (8, 8, using))
        self.assertEqual(found[8:], [[0], [0], [-9, 6]])


class Kept(unittest.TestCase):
    def test_places_8_and_above(self):
        for s in (8, 9, 256, 4294967295):
            self.assertEqual(all_answers(*FILL, (14, s))[-1], [-20])

    def test_no_count_ahead(self):
        made = net(3, END)
        self.assertEqual(all_answers((12, 0, made), (14, 0))[1], [0, 66, 82, 78, 49] + two(3) + [0])

    def test_it_can_be_kept_again(self):
        made = net(3, shift(short(1)), END)
        first = all_answers((12, 0, made), (14, 0))[1][1:]
        self.assertEqual(all_answers((12, 4, first), (14, 4)), [[0], [0] + made])


if __name__ == "__main__":
    unittest.main()
