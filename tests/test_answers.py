import unittest

from shortrowsdesk.house import answers
from tests.words import flat, short, single

MARK = [66, 82, 78, 49]
ONE = short(1)

# Each kind of call, once answered and once refused, and the answer with its count ahead.
PARTS = [
    ((0, single(2), short(3), short(4)), [2, 0, single(14)]),
    ((1, [single(1), 0x3F808001]), [3, 0, ONE, 0x3F81]),
    ((1, []), [1, 0]),
    ((2, [ONE, 1]), [3, 0, single(1), 65536]),
    ((2, []), [1, 0]),
    ((3, [5, 7, 7]), [2, 0, 1]),
    ((3, []), [1, -21]),
    ((4, single(1), [ONE, ONE], [ONE, ONE]), [2, 0, single(3)]),
    ((4, single(1), [ONE], [ONE, ONE]), [1, -21]),
    ((5, 1, 1, [3]), [33, 0, 3] + [0] * 31),
    ((5, 1, 2, [3]), [1, -21]),
    ((6, 1, 1, [3] * 32), [2, 0, 3]),
    ((6, 1, 1, [3] * 31), [1, -21]),
    ((7, 1, 1, 1, [ONE], [ONE] * 32, [single(1)]), [2, 0, single(2)]),
    ((7, 1, 1, 1, [ONE], [ONE] * 32, []), [1, -21]),
    ((8, 0, MARK + [1, 0, 0]), [1, 0]),
    ((8, 8, MARK + [1, 0, 2, 5, 0]), [2, -6, 7]),
    ((8, 3, []), [2, -1, 0]),
    ((8, 9, MARK + [1, 0, 0]), [1, -20]),
]


class Answers(unittest.TestCase):
    def test_each_call_first_and_alone(self):
        for call, answer in PARTS:
            self.assertEqual(answers(flat(call)), answer, call)

    def test_several_calls_in_their_order(self):
        for order in (PARTS, PARTS[::-1], PARTS + PARTS[::-1]):
            calls = [number for call, answer in order for number in flat(call)]
            self.assertEqual(answers(calls), [number for call, answer in order for number in answer])

    def test_a_refusal_changes_nothing(self):
        refused = [(call, answer) for call, answer in PARTS if answer[1] < 0]
        for call, answer in refused:
            for other, other_answer in PARTS:
                calls = flat(other) + flat(call) + flat(other)
                self.assertEqual(answers(calls), other_answer + answer + other_answer)

    def test_what_is_handed_in_stays(self):
        for call, answer in PARTS:
            calls = flat(call) + flat((8, 8, MARK + [3, 0, 4, 14, 2, 5, 4, 15, 6, 0]))
            before = list(calls)
            found = answers(calls)
            self.assertEqual(calls, before)
            self.assertIsNot(found, calls)

    def test_what_is_handed_in_stays_while_it_is_read(self):
        class Watched(list):
            def changed(self, *values):
                raise AssertionError("the list was changed")

            __setitem__ = __delitem__ = __iadd__ = __imul__ = changed
            append = clear = extend = insert = pop = remove = reverse = sort = changed

        for call, answer in PARTS:
            self.assertEqual(answers(Watched(flat(call))), answer)

    def test_nothing_is_kept_from_one_time_to_the_next(self):
        calls = [number for call, answer in PARTS for number in flat(call)]
        first = answers(calls)
        first.append(1)
        self.assertEqual(answers(calls), first[:-1])

    def test_whole_numbers_alone(self):
        calls = [number for call, answer in PARTS for number in flat(call)]
        found = answers(calls)
        self.assertIs(type(found), list)
        self.assertEqual({type(number) for number in found}, {int})

    def test_48_calls(self):
        self.assertEqual(answers([0, single(1), ONE, ONE] * 48), [2, 0, single(2)] * 48)

    def test_long_lists(self):
        self.assertEqual(answers([1, 5000] + [single(1)] * 5000), [5001, 0] + [ONE] * 5000)
        net = MARK + [1, 0] + [14, 2, 15] * 800 + [0]
        self.assertEqual(answers(flat((8, 0, net))), [1, 0])


if __name__ == "__main__":
    unittest.main()
