"""A row that goes in at a kept net and comes out, layer after layer."""

from shortrowsdesk.rows import greatest_place, row_sum
from shortrowsdesk.singles import clamped, narrow, single_of, step, widen

# The short that means 1.
ONE = 0x3F80


class Inside:
    # A net that the row has gone in at and not yet come out of.
    def __init__(self, place, net):
        self.place = place
        self.net = net
        # Of the layer that is done next.
        self.number = 0
        # Of the rows that this net has put aside.
        self.widths = []
        # Of each layer 14 that is still gone through: the number of the layer behind it, how often to go back there.
        self.loops = []


class Run:
    # All singles that lie there are in one list, which is never longer than the net's need: the rows put aside, one
    # behind another, then the row. What stands behind the row is free.
    def __init__(self, place, net, row):
        self.singles = row + [0] * (net.need - len(row))
        self.first = 0
        self.width = len(row)
        self.nets = [Inside(place, net)]

    def row(self):
        return self.singles[self.first:self.first + self.width]


def row_behind(place, net, row):
    run = Run(place, net, row)
    while len(run.nets) > 0:
        do_layer(run)
    return run.row()


def watched(place, net, row, n):
    run = Run(place, net, row)
    done = 0
    while done < n and len(run.nets) > 0:
        do_layer(run)
        done += 1
    if len(run.nets) == 0:
        return [0, 0, 0] + run.row()
    innermost = run.nets[-1]
    return [len(run.nets), innermost.place, innermost.number] + run.row()


def come_out(run, layer):
    run.nets.pop()


def multiply(run, layer):
    shorts = [narrow(run.singles[place]) for place in range(run.first, run.first + run.width)]
    # Written over the old row, of which the shorts are all that is needed.
    for j in range(layer.width_behind):
        run.singles[run.first + j] = row_sum(layer.singles[j], shorts, layer.columns[j])
    run.width = layer.width_behind


def change_each(run, change):
    for place in range(run.first, run.first + run.width):
        run.singles[place] = change(run.singles[place])


def clamp(run, layer):
    change_each(run, clamped)


def shorten(run, layer):
    change_each(run, lambda x: widen(narrow(x)))


def scale(run, layer):
    s = layer.numbers[0]
    change_each(run, lambda x: step(0, narrow(x), s))


def shift(run, layer):
    s = layer.numbers[0]
    change_each(run, lambda x: step(x, s, ONE))


def put_aside(run, layer):
    behind = run.first + run.width
    for i in range(run.width):
        run.singles[behind + i] = run.singles[run.first + i]
    run.nets[-1].widths.append(run.width)
    run.first = behind


def change_with_aside(run, change):
    # What comes out is written where the row that is taken away lay, which is as wide.
    behind = run.first
    run.first -= run.nets[-1].widths.pop()
    for i in range(run.width):
        run.singles[run.first + i] = change(run.singles[behind + i], run.singles[run.first + i])


def add_aside(run, layer):
    change_with_aside(run, lambda x, y: step(x, narrow(y), ONE))


def multiply_aside(run, layer):
    change_with_aside(run, lambda x, y: step(0, narrow(x), narrow(y)))


def go_in(run, layer):
    h = layer.numbers[0]
    run.nets.append(Inside(h, run.nets[-1].net.below[h]))


def cut(run, layer):
    f = layer.numbers[0]
    for i in range(layer.width_behind):
        run.singles[run.first + i] = run.singles[run.first + f + i]
    run.width = layer.width_behind


def turn_round(singles, first, count):
    for i in range(count // 2):
        x = singles[first + i]
        singles[first + i] = singles[first + count - 1 - i]
        singles[first + count - 1 - i] = x


def change_places(run, layer):
    widths = run.nets[-1].widths
    aside = widths.pop()
    first = run.first - aside
    # Turned round each by itself and then both as one, they have changed places with no room beside them.
    turn_round(run.singles, first, aside)
    turn_round(run.singles, run.first, run.width)
    turn_round(run.singles, first, aside + run.width)
    widths.append(run.width)
    run.first = first + run.width
    run.width = aside


def take_behind(run, layer):
    # The row put aside last ends where the row begins, so that both lie there as one already.
    aside = run.nets[-1].widths.pop()
    run.first -= aside
    run.width += aside


def find_greatest(run, layer):
    run.singles[run.first] = single_of(greatest_place(run.singles, run.first, run.width))
    run.width = 1


def begin_loop(run, layer):
    innermost = run.nets[-1]
    innermost.loops.append((innermost.number, layer.numbers[0] - 1))


def end_loop(run, layer):
    innermost = run.nets[-1]
    loop = innermost.loops.pop()
    if loop[1] > 0:
        innermost.loops.append((loop[0], loop[1] - 1))
        innermost.number = loop[0]


LAYERS = {
    0: come_out,
    1: multiply,
    2: clamp,
    3: shorten,
    4: put_aside,
    5: add_aside,
    6: multiply_aside,
    7: scale,
    8: shift,
    9: go_in,
    10: cut,
    11: change_places,
    12: take_behind,
    13: find_greatest,
    14: begin_loop,
    15: end_loop,
}


def do_layer(run):
    innermost = run.nets[-1]
    layer = innermost.net.layers[innermost.number]
    # Counted on before the layer is done, for a layer 15 may go back.
    innermost.number += 1
    LAYERS[layer.byte](run, layer)
