"""The calls run and rows: rows that are refused, and several rows."""

import unittest

from tests.drawn_nets import ODD_SINGLES
from tests.made_nets import (
    ADD, ASIDE, CLAMP, END, LOOP_END, TAKE_BEHIND, cut, loop, net, scale, shift, told_matrix, use,
)
from tests.words import all_answers, only_answer, short, single

ONE = short(1)
KEEP = (12, 2, net(3, shift(ONE), END))
ROW = [single(x) for x in (1, 2, 3)]
BEHIND = [single(x) for x in (2, 3, 4)]


class Run(unittest.TestCase):
    def test_the_row_that_comes_out(self):
        self.assertEqual(all_answers(KEEP, (15, 2, ROW))[1], [0] + BEHIND)
        self.assertEqual(all_answers((12, 7, net(64, END)), (15, 7, list(range(64))))[1], [0] + list(range(64)))

    def test_not_as_wide(self):
        for row in ([], ROW[:2], ROW + ROW[:1], ROW * 2, [0] * 64, [0] * 65, [0] * 500):
            self.assertEqual(all_answers(KEEP, (15, 2, row))[1], [-21])

    def test_as_wide_as_what_goes_in_and_not_as_what_comes_out(self):
        keep = (12, 0, net(3, cut(0, 2), END))
        self.assertEqual(all_answers(keep, (15, 0, ROW), (15, 0, ROW[:2]))[1:], [[0] + ROW[:2], [-21]])

    def test_where_no_net_is_kept(self):
        for s in (0, 1, 3, 7, 8, 9, 256, 4294967295):
            self.assertEqual(only_answer(15, s, ROW), [-20])
            self.assertEqual(all_answers(KEEP, (15, s, ROW))[1], [-20])
            self.assertEqual(all_answers(KEEP, (15, s, []))[1], [-20])

    def test_refused_it_changes_nothing(self):
        calls = [KEEP, (15, 2, ROW), (15, 2, []), (15, 3, ROW), (15, 2, ROW), (14, 2)]
        expected = [[0], [0] + BEHIND, [-21], [-20], [0] + BEHIND, [0] + KEEP[2]]
        self.assertEqual(all_answers(*calls), expected)


class Rows(unittest.TestCase):
    def test_no_row(self):
        self.assertEqual(all_answers(KEEP, (16, 2, []))[1], [0])

    def test_each_by_itself(self):
        made = net(4, ASIDE, told_matrix([[ONE, short(2)]] * 4, [0, single(1)]), TAKE_BEHIND, loop(3), CLAMP,
                   scale(short(0.5)), ASIDE, ADD, LOOP_END, cut(1, 5), END)
        rows = [list(ODD_SINGLES[first:first + 4]) for first in range(0, 28, 4)]
        keep = (12, 0, made)
        single_runs = all_answers(keep, *[(15, 0, row) for row in rows])[1:]
        expected = [number for found in single_runs for number in found[1:]]
        self.assertEqual(len(expected), 35)
        together = [number for row in rows for number in row]
        self.assertEqual(all_answers(keep, (16, 0, together))[1], [0] + expected)
        for first in range(7):
            turned = rows[first:] + rows[:first]
            together = [number for row in turned for number in row]
            self.assertEqual(all_answers(keep, (16, 0, together))[1], [0] + expected[5 * first:] + expected[:5 * first])

    def test_through_used_nets(self):
        calls = [(12, 0, net(1, shift(ONE), END)), (12, 1, net(1, use(0, 1), scale(short(2)), END))]
        rows = [single(x) for x in range(5)]
        self.assertEqual(all_answers(*calls, (16, 1, rows))[2], [0] + [single(2 * x + 2) for x in range(5)])

    def test_one_row(self):
        self.assertEqual(all_answers(KEEP, (16, 2, ROW))[1], [0] + BEHIND)

    def test_64_and_65_rows(self):
        self.assertEqual(all_answers(KEEP, (16, 2, ROW * 64))[1], [0] + BEHIND * 64)
        self.assertEqual(all_answers(KEEP, (16, 2, ROW * 65))[1], [-21])
        self.assertEqual(all_answers(KEEP, (16, 2, ROW * 64 + ROW[:1]))[1], [-21])
        wide = (12, 0, net(64, END))
        self.assertEqual(all_answers(wide, (16, 0, list(range(4096))))[1], [0] + list(range(4096)))
        self.assertEqual(all_answers(wide, (16, 0, list(range(4160))))[1], [-21])
        narrow = (12, 0, net(1, END))
        self.assertEqual(all_answers(narrow, (16, 0, list(range(64))))[1], [0] + list(range(64)))
        self.assertEqual(all_answers(narrow, (16, 0, list(range(65))))[1], [-21])
        self.assertEqual(all_answers(narrow, (16, 0, [0] * 5000))[1], [-21])

    def test_a_part_of_a_row(self):
        for count in (1, 2, 4, 5, 7, 190, 191):
            self.assertEqual(all_answers(KEEP, (16, 2, [0] * count))[1], [-21])

    def test_where_no_net_is_kept(self):
        for s in (0, 1, 3, 7, 8, 9, 256, 4294967295):
            for rows in ([], ROW, ROW[:1], ROW * 65):
                self.assertEqual(only_answer(16, s, rows), [-20])
                self.assertEqual(all_answers(KEEP, (16, s, rows))[1], [-20])

    def test_refused_it_changes_nothing(self):
        calls = [KEEP, (16, 2, ROW[:1]), (16, 3, ROW), (16, 2, ROW), (14, 2)]
        self.assertEqual(all_answers(*calls), [[0], [-21], [-20], [0] + BEHIND, [0] + KEEP[2]])


if __name__ == "__main__":
    unittest.main()
