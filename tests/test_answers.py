import unittest

from shortrowsdesk.house import answers
from tests.made_nets import ADD, ASIDE, CLAMP, END, LOOP_END, MARK, loop, matrix_layer, net, shift, use
from tests.words import all_answers, flat, short, single

ONE = short(1)
ONE_MORE = shift(ONE)

# Each kind of call, once answered and once refused, and the answer with its count ahead. Only at place 0 a net is kept
# here and run, so that each is answered alike wherever it stands behind the first that keeps it.
PARTS = [
    ((0, single(2), short(3), short(4)), [2, 0, single(14)]),
    ((1, [single(1), 0x3F808001]), [3, 0, ONE, 0x3F81]),
    ((1, []), [1, 0]),
    ((2, [ONE, 1]), [3, 0, single(1), 65536]),
    ((2, []), [1, 0]),
    ((3, [5, 7, 7]), [2, 0, 1]),
    ((3, []), [1, -21]),
    ((4, single(1), [ONE, ONE], [ONE, ONE]), [2, 0, single(3)]),
    ((4, single(1), [ONE], [ONE, ONE]), [1, -21]),
    ((5, 1, 1, [3]), [33, 0, 3] + [0] * 31),
    ((5, 1, 2, [3]), [1, -21]),
    ((6, 1, 1, [3] * 32), [2, 0, 3]),
    ((6, 1, 1, [3] * 31), [1, -21]),
    ((7, 1, 1, 1, [ONE], [ONE] * 32, [single(1)]), [2, 0, single(2)]),
    ((7, 1, 1, 1, [ONE], [ONE] * 32, []), [1, -21]),
    ((8, 0, MARK + [1, 0, 0]), [1, 0]),
    ((8, 8, MARK + [1, 0, 2, 5, 0]), [2, -6, 7]),
    ((8, 3, []), [2, -1, 0]),
    ((8, 9, MARK + [1, 0, 0]), [1, -20]),
    ((9, 0, net(2, ASIDE, ADD, END)), [6, 0, 2, 2, 4, 3, 3]),
    ((9, 0, net(2, ADD, END)), [2, -6, 6]),
    ((9, 9, net(2, END)), [1, -20]),
    ((10, 0, 1, net(2, ASIDE, ADD, END)), [6, 0, 7, 5, 2, 2, 1]),
    ((10, 0, 3, net(2, ASIDE, ADD, END)), [1, -21]),
    ((11, 0, net(2, CLAMP, END), net(2, END)), [9, 0] + net(2, CLAMP, END)),
    ((11, 0, net(2, CLAMP), net(2, END)), [2, -3, 7]),
    ((11, 0, net(2, CLAMP, END), net(2, ADD, END)), [2, -16, 6]),
    ((11, 0, net(2, CLAMP, END), net(3, END)), [1, -21]),
    ((12, 0, net(2, ADD, END)), [2, -6, 6]),
    ((12, 8, net(2, END)), [1, -20]),
    ((13, 7), [1, -20]),
    ((14, 7), [1, -20]),
    ((15, 7, [1, 2]), [1, -20]),
    ((16, 7, [1, 2]), [1, -20]),
    ((17, 7, 1, [1, 2]), [1, -20]),
]

# The same of calls behind one that keeps a net.
KEEP = ((12, 0, net(2, ONE_MORE, END)), [1, 0])
KEPT_PARTS = [
    KEEP,
    ((14, 0), [11, 0] + net(2, ONE_MORE, END)),
    ((15, 0, [0, single(1)]), [3, 0, single(1), single(2)]),
    ((15, 0, [0]), [1, -21]),
    ((16, 0, [0] * 4), [5, 0] + [single(1)] * 4),
    ((16, 0, [0] * 3), [1, -21]),
    ((17, 0, 0, [0, 7]), [6, 0, 1, 0, 0, 0, 7]),
    ((17, 0, 2, [0, single(1)]), [6, 0, 0, 0, 0, single(1), single(2)]),
    ((17, 0, 8193, [0, 7]), [1, -21]),
    ((8, 1, net(2, use(0, 2), END)), [1, 0]),
    ((8, 0, net(2, use(0, 2), END)), [2, -9, 6]),
    ((9, 1, net(2, use(0, 2), END)), [6, 0, 2, 2, 4, 2, 4]),
    ((13, 1), [1, -20]),
]


class Answers(unittest.TestCase):
    def test_each_call_first_and_alone(self):
        for call, answer in PARTS:
            self.assertEqual(answers(flat(call)), answer, call)

    def test_several_calls_in_their_order(self):
        for order in (PARTS, PARTS[::-1], PARTS[:20] + PARTS[20::-1], [KEEP] + PARTS, [KEEP] + KEPT_PARTS[::-1]):
            calls = [number for call, answer in order for number in flat(call)]
            self.assertEqual(answers(calls), [number for call, answer in order for number in answer])

    def test_a_refusal_changes_nothing(self):
        parts = PARTS + KEPT_PARTS
        refused = [(call, answer) for call, answer in parts if answer[1] < 0]
        for call, answer in refused:
            for other, other_answer in parts:
                calls = flat(KEEP[0]) + flat(other) + flat(call) + flat(other)
                self.assertEqual(answers(calls), KEEP[1] + other_answer + answer + other_answer)

    def test_what_is_handed_in_stays(self):
        for call, answer in PARTS + KEPT_PARTS:
            calls = flat(KEEP[0]) + flat(call) + flat((8, 8, MARK + [3, 0, 4, 14, 2, 5, 4, 15, 6, 0]))
            before = list(calls)
            found = answers(calls)
            self.assertEqual(calls, before)
            self.assertIsNot(found, calls)

    def test_what_is_handed_in_stays_while_it_is_read(self):
        class Watched(list):
            def changed(self, *values):
                raise AssertionError("the list was changed")

            __setitem__ = __delitem__ = __iadd__ = __imul__ = changed
            append = clear = extend = insert = pop = remove = reverse = sort = changed

        for call, answer in PARTS + KEPT_PARTS:
            self.assertEqual(answers(Watched(flat(KEEP[0]) + flat(call))), KEEP[1] + answer)

    def test_nothing_is_kept_from_one_time_to_the_next(self):
        for parts in (PARTS, KEPT_PARTS):
            calls = [number for call, answer in parts for number in flat(call)]
            first = answers(calls)
            first.append(1)
            self.assertEqual(answers(calls), first[:-1])
        self.assertEqual(answers(flat(KEEP[0])), [1, 0])
        self.assertEqual(answers([14, 0]), [1, -20])
        self.assertEqual(answers(flat((8, 8, net(2, use(0, 2), END)))), [2, -9, 6])

    def test_whole_numbers_alone(self):
        for parts in (PARTS, KEPT_PARTS):
            calls = [number for call, answer in parts for number in flat(call)]
            found = answers(calls)
            self.assertIs(type(found), list)
            self.assertEqual({type(number) for number in found}, {int})

    def test_48_calls(self):
        self.assertEqual(answers([0, single(1), ONE, ONE] * 48), [2, 0, single(2)] * 48)

    def test_48_calls_on_one_house(self):
        calls = [(12, place, net(1, use(place - 1, 1) if place else ONE_MORE, ONE_MORE, END)) for place in range(8)]
        calls += [(15, place, [single(place)]) for place in range(8)] * 5
        expected = [[0]] * 8 + [[0, single(2 * place + 2)] for place in range(8)] * 5
        self.assertEqual(all_answers(*calls), expected)

    def test_long_lists(self):
        self.assertEqual(answers([1, 5000] + [single(1)] * 5000), [5001, 0] + [ONE] * 5000)
        made = MARK + [1, 0] + [14, 2, 15] * 800 + [0]
        self.assertEqual(answers(flat((8, 0, made))), [1, 0])

    def test_a_net_of_16384_bytes(self):
        made = net(64, matrix_layer(64, 48), matrix_layer(48, 64), ONE_MORE * 900)
        made += CLAMP * (16383 - len(made)) + END
        self.assertEqual(len(made), 16384)
        # The shorts of both matrices are -2^127: of a row of 0 they leave the singles 1, and of these what is clamped.
        row = [0] * 64
        layers = 16384 - len(net(64, matrix_layer(64, 48), matrix_layer(48, 64))) - 900 * 3 + 902
        told, kept, behind = all_answers((9, 0, made), (12, 0, made), (17, 0, 1, row))
        self.assertEqual((told, kept), ([0, 64, 64, 112, layers, layers], [0]))
        self.assertEqual(behind, [0, 1, 0, 1] + [single(1)] * 48)
        self.assertEqual(all_answers((12, 0, made), (14, 0))[1], [0] + made)
        self.assertEqual(all_answers((12, 0, made), (15, 0, row))[1], [0] + [0] * 64)

    def test_4096_layers_in_one_call(self):
        made = net(64, ONE_MORE * 4095, END)
        self.assertEqual(all_answers((12, 0, made), (15, 0, [0] * 64))[1], [0] + [single(4095)] * 64)

    def test_4096_layers_in_one_list(self):
        keep = (12, 0, net(3, loop(7), ONE_MORE, LOOP_END, END))
        self.assertEqual(all_answers(keep, (9, 0, keep[2]))[1][5], 16)
        # 64 rows of 16 layers are 1,024; three times that, 32 runs of 16, and a watch of 512.
        calls = [(16, 0, [0] * 192)] * 3 + [(15, 0, [0] * 3)] * 32 + [(17, 0, 512, [0] * 3)]
        found = all_answers(keep, *calls)[1:]
        seven = single(7)
        self.assertEqual(found[:3], [[0] + [seven] * 192] * 3)
        self.assertEqual(found[3:35], [[0] + [seven] * 3] * 32)
        self.assertEqual(found[35], [0, 0, 0, 0] + [seven] * 3)


if __name__ == "__main__":
    unittest.main()
