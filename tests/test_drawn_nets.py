"""Nets that are drawn: what they do against the words, promises 3 to 6 over them, and the singles that lie there."""

import random
import unittest

from shortrowsdesk.nets import judged
from shortrowsdesk.running import Run, do_layer
from tests.drawn_nets import draw_house, draw_net, draw_row
from tests.said_nets import said_layers, said_run, said_tell, said_watches
from tests.words import all_answers, only_answer


def keeps(nets):
    return [(12, place, nets[place]) for place in nets]


def drawn_houses(first, count):
    for seed in range(first, first + count):
        source = random.Random(seed)
        places = sorted(source.sample(range(8), source.randint(1, 5)))
        yield source, draw_house(source, places)[0]


def walks(nets):
    """What the program knows of each net, as a house would keep it."""
    below = [None] * 8
    for place in nets:
        fault, below[place] = judged(nets[place], below[:place])
        if fault is not None:
            raise AssertionError((place, fault))
    return below


class SinglesThatLieThere(list):
    """A run's singles, of which is noted how many have ever been written or read from the first on."""

    def __init__(self, singles):
        super().__init__(singles)
        self.most = 0

    def __getitem__(self, place):
        if not isinstance(place, slice):
            self.most = max(self.most, place + 1)
        return super().__getitem__(place)

    def __setitem__(self, place, x):
        self.most = max(self.most, place + 1)
        super().__setitem__(place, x)


class Drawn(unittest.TestCase):
    def test_tell(self):
        for source, nets in drawn_houses(0, 60):
            found = all_answers(*keeps(nets), *[(9, place, nets[place]) for place in nets])
            self.assertEqual(found[:len(nets)], [[0]] * len(nets))
            for place, told in zip(nets, found[len(nets):]):
                self.assertEqual(told, [0] + said_tell(nets, nets[place]))

    def test_layer(self):
        for source, nets in drawn_houses(100, 12):
            for place in nets:
                layers = said_layers(nets[place])
                for i, layer in enumerate(layers):
                    told = all_answers(*keeps(nets), (10, place, i, nets[place]))[-1]
                    expected = [layer.place, layer.byte, layer.before, layer.behind()[0], len(layer.aside)]
                    self.assertEqual(told, [0] + expected)
                self.assertEqual(all_answers(*keeps(nets), (10, place, len(layers), nets[place]))[-1], [-21])

    def test_run_and_rows(self):
        for source, nets in drawn_houses(200, 40):
            for place in nets:
                width = only_width(nets[place])
                rows = [draw_row(source, width) for time in range(3)]
                expected = [said_run(nets, place, row) for row in rows]
                calls = [(15, place, row) for row in rows] + [(16, place, rows[0] + rows[1] + rows[2])]
                found = all_answers(*keeps(nets), *calls)[len(nets):]
                self.assertEqual(found[:3], [[0] + row for row in expected])
                self.assertEqual(found[3], [0] + expected[0] + expected[1] + expected[2])

    def test_watch_behind_each_layer_and_the_end_just_when_told(self):
        for source, nets in drawn_houses(300, 25):
            for place in nets:
                row = draw_row(source, only_width(nets[place]))
                states, most = said_watches(nets, place, row)
                done = all_answers(*keeps(nets), (9, place, nets[place]))[-1][5]
                self.assertEqual(len(states) - 1, done)
                for first in range(0, done + 3, 20):
                    calls = [(17, place, n, row) for n in range(first, min(first + 20, done + 3))]
                    for call, found in zip(calls, all_answers(*keeps(nets), *calls)[len(nets):]):
                        self.assertEqual(found, [0] + states[min(call[2], done)])

    def test_what_join_makes_does_what_both_do(self):
        joined = 0
        for seed in range(400, 700):
            source = random.Random(seed)
            nets, told = draw_house(source, [0, 1])
            a, widths_a = draw_net(source, told, most=3)
            b, widths_b = draw_net(source, told, most=3)
            found = all_answers(*keeps(nets), (11, 2, a, b))[-1]
            if widths_a[1] != widths_b[0]:
                self.assertEqual(found, [-21])
                continue
            joined += 1
            self.assertEqual(found, [0] + a[:-1] + b[6:])
            row = draw_row(source, widths_a[0])
            calls = [(12, 2, a), (15, 2, row), (12, 2, found[1:]), (15, 2, row), (9, 2, found[1:])]
            answers = all_answers(*keeps(nets), *calls)[2:]
            between = answers[1][1:]
            behind = all_answers(*keeps(nets), (12, 2, b), (15, 2, between))[-1]
            self.assertEqual(answers[3], behind)
            self.assertEqual(answers[4][1:3] + answers[4][5:],
                             [widths_a[0], widths_b[1], widths_a[2] + widths_b[2] - 1])
        self.assertGreater(joined, 50)

    def test_what_is_kept_is_whole_by_the_nets_below_it(self):
        for source, nets in drawn_houses(700, 30):
            calls = keeps(nets)
            for time in range(10):
                place = source.randrange(8)
                made = nets[source.choice(list(nets))]
                calls.append(source.choice([(12, place, made), (13, place), (12, place, made[:-1])]))
            kept = [found[1:] for found in all_answers(*calls, *[(14, place) for place in range(8)])[-8:]]
            checks = [(8, place, kept[place]) for place in range(8) if kept[place]]
            found = all_answers(*calls, *checks)[len(calls):]
            self.assertEqual(found, [[0]] * len(checks))
            # So they can be kept in a new house, from the lowest place on.
            again = [(12, place, kept[place]) for place in range(8) if kept[place]]
            if again:
                self.assertEqual(all_answers(*again), [[0]] * len(again))


class SinglesAndNeed(unittest.TestCase):
    def test_never_more_lie_there_than_the_need(self):
        as_many = 0
        for source, nets in drawn_houses(800, 60):
            known = walks(nets)
            for place in nets:
                row = draw_row(source, only_width(nets[place]))
                need = all_answers(*keeps(nets), (9, place, nets[place]))[-1][3]
                states, most = said_watches(nets, place, row)
                self.assertLessEqual(most, need)
                run = Run(place, known[place], row)
                self.assertEqual(len(run.singles), need)
                found = self.most_of_run(run, states)
                self.assertEqual(len(run.singles), need)
                self.assertLessEqual(most, found)
                self.assertLessEqual(found, need)
                as_many += found == need
        self.assertGreater(as_many, 50)

    def most_of_run(self, run, states):
        """The most singles that ever lie there; the rows put aside and the row are counted behind each layer too."""
        run.singles = SinglesThatLieThere(run.singles)
        most = run.width
        layers = 0
        while run.nets:
            do_layer(run)
            layers += 1
            aside = sum(sum(inside.widths) for inside in run.nets)
            self.assertEqual(run.first, aside)
            self.assertEqual(run.row(), states[layers][3:])
            most = max(most, aside + run.width, run.singles.most)
        self.assertEqual(layers, len(states) - 1)
        return most


def only_width(made):
    return only_answer(9, 8, made[:6] + [0])[1]


if __name__ == "__main__":
    unittest.main()
