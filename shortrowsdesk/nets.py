"""Nets read from bytes and judged, layer after layer."""

from shortrowsdesk.matrices import MOST_WIDE, is_size, woven_column, woven_size

MARK = (66, 82, 78, 49)
HEAD = 6
MOST_BYTES = 16384
MOST_ASIDE = 16
MOST_TIMES = 256
MOST_DONE = 4096
LAST_LAYER = 15

# How many bytes stand behind a layer's byte; of a layer 1 these are m's alone.
BEHIND = {1: 2, 7: 2, 8: 2, 9: 4, 10: 4, 14: 1}


def number_at(net, place):
    return net[place] + 256 * net[place + 1]


class Walk:
    # What a net is known to be from its beginning up to a layer, by widths alone.
    # net is as long as a head; below are the nets that its layers 9 may use, by place, None where none is kept.
    def __init__(self, net, below):
        self.net = net
        self.below = below
        self.place = HEAD
        self.width_in = number_at(net, 4)
        self.width = self.width_in
        self.aside = []
        # Of each layer 14 that is still gone through: times, width and aside as they were at it.
        self.loops = []
        self.times = 1
        self.layers = []
        self.done = 0
        self.need = self.width_in
        self.ended = False

    def layer(self):
        return self.net[self.place]

    def told(self, offset):
        return number_at(self.net, self.place + offset)

    def used_net(self):
        h = self.told(1)
        return self.below[h] if h < len(self.below) else None


class Layer:
    # A whole layer, as a walk that stands at it finds it; the widths are the row's.
    def __init__(self, walk):
        self.place = walk.place
        self.byte = walk.layer()
        self.width_before = walk.width
        self.width_behind = new_width(walk)
        self.aside_before = len(walk.aside)
        self.numbers = told_numbers(walk)
        # Of a layer 1 alone: read once, since a layer may be done often.
        self.columns = told_columns(walk) if self.byte == 1 else []
        self.singles = told_singles(walk) if self.byte == 1 else []


def judged(net, below):
    # A net's first fault, as its code and its place, or None; and the walk as far as it went, or None.
    if len(net) < HEAD or len(net) > MOST_BYTES or tuple(net[:4]) != MARK:
        return ((-1, 0), None)
    walk = Walk(net, below)
    if not is_size(walk.width_in):
        return ((-2, 0), None)
    while not walk.ended:
        code = layer_fault(walk)
        if code == -8:
            return ((code, walk.place + 1), walk)
        if code != 0:
            return ((code, walk.place), walk)
        pass_layer(walk)
    return (None, walk)


def layer_fault(walk):
    # The order of the codes is the order in which they are asked: each may build on those before it.
    if walk.place >= len(walk.net) or walk.layer() > LAST_LAYER:
        return -3
    if layer_end(walk) > len(walk.net):
        return -4
    if has_wrong_width(walk):
        return -5
    if has_wrong_aside(walk):
        return -6
    if has_wrong_loop(walk):
        return -7
    if walk.layer() == 0 and layer_end(walk) < len(walk.net):
        return -8
    if walk.layer() == 9 and not fits_used_net(walk):
        return -9
    if walk.done + layers_done(walk) > MOST_DONE:
        return -10
    return 0


def layer_end(walk):
    # The place behind the layer, by what it tells, whether so many bytes are there or not.
    layer = walk.layer()
    end = walk.place + 1 + BEHIND.get(layer, 0)
    if layer != 1 or end > len(walk.net):
        return end
    m = walk.told(1)
    if not is_size(m):
        return end
    return end + 2 * woven_size(walk.width, m) + 4 * m


def new_width(walk):
    # Read from the bytes as they stand, be it a width that a row can have or not.
    layer = walk.layer()
    if layer == 1:
        return walk.told(1)
    if layer == 9 or layer == 10:
        return walk.told(3)
    if layer == 11:
        return walk.aside[-1]
    if layer == 12:
        return walk.aside[-1] + walk.width
    if layer == 13:
        return 1
    return walk.width


def told_numbers(walk):
    # What stands behind the layer's byte, but a layer 1's matrix and singles.
    layer = walk.layer()
    if layer == 14:
        return [walk.net[walk.place + 1]]
    return [walk.told(offset + 1) for offset in range(0, BEHIND.get(layer, 0), 2)]


def told_columns(walk):
    m = walk.told(1)
    woven = [walk.told(3 + 2 * place) for place in range(woven_size(walk.width, m))]
    return [woven_column(walk.width, woven, column) for column in range(m)]


def told_singles(walk):
    m = walk.told(1)
    first = 3 + 2 * woven_size(walk.width, m)
    return [walk.told(first + 4 * j) + 65536 * walk.told(first + 4 * j + 2) for j in range(m)]


def has_wrong_width(walk):
    layer = walk.layer()
    if layer == 10 and walk.told(1) + walk.told(3) > walk.width:
        return True
    if layer == 12 and len(walk.aside) > 0:
        return new_width(walk) > MOST_WIDE
    if layer in (1, 9, 10):
        return not is_size(new_width(walk))
    return False


def has_wrong_aside(walk):
    layer = walk.layer()
    if layer == 4:
        return len(walk.aside) >= MOST_ASIDE
    if layer in (5, 6, 11, 12) and len(walk.aside) == 0:
        return True
    return layer in (5, 6) and walk.aside[-1] != walk.width


def has_wrong_loop(walk):
    layer = walk.layer()
    if layer == 14:
        r = walk.net[walk.place + 1]
        return r < 2 or walk.times * r > MOST_TIMES
    if layer == 15:
        return len(walk.loops) == 0 or walk.loops[-1][1:] != (walk.width, walk.aside)
    return layer == 0 and len(walk.loops) + len(walk.aside) > 0


def fits_used_net(walk):
    used = walk.used_net()
    return used is not None and used.width_in == walk.width and used.width == walk.told(3)


def layers_done(walk):
    if walk.layer() == 9:
        return walk.times * (1 + walk.used_net().done)
    return walk.times


def lying(walk):
    return sum(walk.aside) + walk.width


def need_at(walk):
    # What lies there behind a layer lies there before the next one, and behind the 0 as before it.
    layer = walk.layer()
    if layer == 9:
        return max(lying(walk) + new_width(walk), sum(walk.aside) + walk.used_net().need)
    if layer == 1:
        return lying(walk) + new_width(walk)
    return lying(walk)


def pass_layer(walk):
    layer = walk.layer()
    walk.layers.append(Layer(walk))
    walk.done += layers_done(walk)
    walk.need = max(walk.need, need_at(walk))
    end = layer_end(walk)
    width = new_width(walk)
    if layer == 4:
        walk.aside.append(walk.width)
    if layer in (5, 6, 11, 12):
        walk.aside.pop()
    if layer == 11:
        walk.aside.append(walk.width)
    if layer == 14:
        # Copied, for the layers inside may take rows away and put others aside.
        walk.loops.append((walk.times, walk.width, list(walk.aside)))
        walk.times *= walk.net[walk.place + 1]
    if layer == 15:
        walk.times = walk.loops.pop()[0]
    walk.ended = layer == 0
    walk.width = width
    walk.place = end


def joined(a, b):
    return a[:-1] + b[HEAD:]
