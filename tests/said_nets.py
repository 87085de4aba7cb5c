"""What the document's words say of whole nets: what they do, layer after layer, and what is told of them."""

from tests.words import said_narrow, said_step, said_sum, single

ONE = 0x3F80
BEHIND = {1: 2, 7: 2, 8: 2, 9: 4, 10: 4, 14: 1}


def number(net, place, count):
    return int.from_bytes(bytes(net[place:place + count]), "little")


class SaidLayer:
    def __init__(self, net, place, width, aside):
        self.place = place
        self.byte = net[place]
        self.before = width
        self.aside = list(aside)
        self.end = place + 1 + BEHIND.get(self.byte, 0)
        self.h = self.f = self.s = number(net, place + 1, 2)
        self.m = number(net, place + (1 if self.byte == 1 else 3), 2)
        self.r = number(net, place + 1, 1)
        if self.byte == 1:
            self.read_matrix(net)

    def read_matrix(self, net):
        pairs = (self.before + 1) // 2
        first = self.end
        self.columns = []
        for j in range(self.m):
            column = []
            for row in range(self.before):
                place = ((j // 16 * pairs + row // 2) * 16 + j % 16) * 2 + row % 2
                column.append(number(net, first + 2 * place, 2))
            self.columns.append(column)
        first += 2 * 32 * pairs * ((self.m + 15) // 16)
        self.singles = [number(net, first + 4 * j, 4) for j in range(self.m)]
        self.end = first + 4 * self.m

    def behind(self):
        """The width behind it, and the widths of the rows that are put aside then."""
        left = self.aside[:-1]
        if self.byte in (1, 9, 10):
            return self.m, self.aside
        if self.byte == 4:
            return self.before, self.aside + [self.before]
        if self.byte in (5, 6):
            return self.before, left
        if self.byte == 11:
            return self.aside[-1], left + [self.before]
        if self.byte == 12:
            return self.aside[-1] + self.before, left
        if self.byte == 13:
            return 1, self.aside
        return self.before, self.aside


def said_layers(net):
    found = []
    place = 6
    width = number(net, 4, 2)
    aside = []
    while place < len(net):
        layer = SaidLayer(net, place, width, aside)
        found.append(layer)
        width, aside = layer.behind()
        place = layer.end
    return found


def said_order(layers, first=0):
    """The numbers of the layers in the order in which they're done, and the number behind the last of them."""
    order = []
    i = first
    while i < len(layers):
        order.append(i)
        if layers[i].byte == 15:
            return order, i + 1
        if layers[i].byte == 14:
            inner, behind = said_order(layers, i + 1)
            order += inner * layers[i].r
            i = behind
        else:
            i += 1
    return order, i


def said_greatest(row):
    rising = sorted(row, key=lambda x: (0, (1 << 32) - x) if x >> 31 else (1, x))
    return row.index(rising[-1])


def said_row(layer, row, aside):
    """The row behind any layer but 9; aside is changed."""
    byte = layer.byte
    if byte == 1:
        shorts = [said_narrow(x) for x in row]
        return [said_sum(s, shorts, column) for s, column in zip(layer.singles, layer.columns)]
    if byte == 2:
        return [0 if x >> 31 else x for x in row]
    if byte == 3:
        return [said_narrow(x) << 16 for x in row]
    if byte == 4:
        aside.append(row)
    if byte == 5:
        return [said_step(x, said_narrow(y), ONE) for x, y in zip(row, aside.pop(), strict=True)]
    if byte == 6:
        return [said_step(0, said_narrow(x), said_narrow(y)) for x, y in zip(row, aside.pop(), strict=True)]
    if byte == 7:
        return [said_step(0, said_narrow(x), layer.s) for x in row]
    if byte == 8:
        return [said_step(x, layer.s, ONE) for x in row]
    if byte == 10:
        return row[layer.f:layer.f + layer.m]
    if byte == 11:
        other = aside.pop()
        aside.append(row)
        return other
    if byte == 12:
        return aside.pop() + row
    if byte == 13:
        return [single(said_greatest(row))]
    return row


def said_states(nets, s, row, depth=1, below=0):
    """Before each layer what watch tells, and how many singles lie there; gives back the row that comes out."""
    layers = said_layers(nets[s])
    aside = []
    for i in said_order(layers)[0]:
        beside = below + sum(len(other) for other in aside)
        yield [depth, s, i] + row, beside + len(row)
        if layers[i].byte == 9:
            row = yield from said_states(nets, layers[i].h, row, depth + 1, beside)
        else:
            row = said_row(layers[i], row, aside)
    return row


def said_watches(nets, s, row):
    """What watch tells behind 0, 1, .. layers, up to the end, and the most singles that lie there between layers."""
    told = []
    most = len(row)
    states = said_states(nets, s, row)
    while True:
        try:
            state, lying = next(states)
        except StopIteration as end:
            told.append([0, 0, 0] + end.value)
            return told, max(most, len(end.value))
        told.append(state)
        most = max(most, lying)


def said_run(nets, s, row):
    return said_watches(nets, s, row)[0][-1][3:]


def said_need(nets, net):
    found = [number(net, 4, 2)]
    for layer in said_layers(net):
        width, aside = layer.behind()
        beside = sum(layer.aside)
        found.append(beside + layer.before)
        if layer.byte in (1, 9):
            found.append(beside + layer.before + layer.m)
        if layer.byte == 9:
            found.append(beside + said_need(nets, nets[layer.h]))
        found.append(sum(aside) + width)
    return max(found)


def said_done(nets, net):
    layers = said_layers(net)
    done = 0
    for i in said_order(layers)[0]:
        done += 1
        if layers[i].byte == 9:
            done += said_done(nets, nets[layers[i].h])
    return done


def said_tell(nets, net):
    layers = said_layers(net)
    width_out = layers[-1].before
    return [number(net, 4, 2), width_out, said_need(nets, net), len(layers), said_done(nets, net)]
