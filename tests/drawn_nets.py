"""Whole nets drawn by a source that is told where it begins, and rows for them."""

from tests.made_nets import (
    ADD, ASIDE, CHANGE_PLACES, CLAMP, END, GREATEST, LOOP_END, MULTIPLY, SHORTEN, TAKE_BEHIND,
    cut, loop, net, scale, shift, told_matrix, use,
)

ODD_SINGLES = (
    0, 0x80000000, 1, 0x80000001, 0x007FFFFF, 0x807FFFFF, 0x00800000, 0x80800000, 0x3F800000, 0xBF800000, 0x3F808000,
    0x3F818000, 0x3F808001, 0xBF817FFF, 0x3F7FFFFF, 0x4B800000, 0xCB800001, 0x7F7FFFFF, 0xFF7FFFFF, 0x7F7F7FFF,
    0x7F800000, 0xFF800000, 0x7F800001, 0xFF800001, 0x7FC00000, 0xFFC12345, 0x7FBFFFFF, 0xFFFFFFFF,
)
ODD_SHORTS = tuple(sorted({x >> 16 for x in ODD_SINGLES})) + (1, 0x8001, 0x7F, 0x3F81, 0xBF83)


def draw_single(source):
    if source.random() < 0.2:
        return source.choice(ODD_SINGLES)
    return source.randrange(0x3D000000, 0x42000000) | source.choice((0, 0x80000000))


def draw_short(source):
    if source.random() < 0.1:
        return source.choice(ODD_SHORTS)
    return source.randrange(0x3D00, 0x4200) | source.choice((0, 0x8000))


def draw_row(source, width):
    return [draw_single(source) for place in range(width)]


class Drawn:
    """A net that grows; nets are those that it may use, by place: their widths in and out, and layers done."""

    def __init__(self, source, nets, most):
        self.source = source
        self.nets = nets
        self.most = most
        self.width = self.width_in = source.randint(1, most)
        self.aside = []
        self.times = 1
        self.done = 1
        self.layers = []

    def add(self, layer, done=1):
        self.layers.append(layer)
        self.done += self.times * done

    def matrix(self, m):
        rows = [[draw_short(self.source) for j in range(m)] for i in range(self.width)]
        singles = [draw_single(self.source) for j in range(m)]
        self.add(told_matrix(rows, singles, draw_short(self.source)))
        self.width = m

    def put_aside(self):
        self.add(ASIDE)
        self.aside.append(self.width)

    def change_places(self):
        self.add(CHANGE_PLACES)
        self.width, self.aside[-1] = self.aside[-1], self.width

    def take_behind(self):
        self.add(TAKE_BEHIND)
        self.width += self.aside.pop()

    def cut(self, m):
        self.add(cut(self.source.randint(0, self.width - m), m))
        self.width = m

    def greatest(self):
        self.add(GREATEST)
        self.width = 1

    def use(self):
        h = self.source.choice(list(self.nets))
        width, width_out, done = self.nets[h]
        if self.done + self.times * (1 + done) < 300:
            self.widen_or_cut(width)
            self.add(use(h, width_out), 1 + done)
            self.width = width_out

    def plain(self):
        layer = self.source.randrange(4)
        if layer == 0:
            self.add(CLAMP)
        elif layer == 1:
            self.add(SHORTEN)
        elif layer == 2:
            self.add(scale(draw_short(self.source)))
        else:
            self.add(shift(draw_short(self.source)))

    def with_aside(self, base):
        """A layer that may take rows away, but leaves as many as base."""
        choice = self.source.randrange(4)
        if len(self.aside) <= base or choice == 0:
            if len(self.aside) < 16:
                self.put_aside()
        elif choice == 1 and self.aside[-1] == self.width:
            self.add(self.source.choice((ADD, MULTIPLY)))
            self.aside.pop()
        elif choice == 2 and self.aside[-1] + self.width <= 64:
            self.take_behind()
        else:
            self.change_places()

    def loop(self):
        r = self.source.choice((2, 2, 3, 5))
        if self.times * r > 30 or self.done > 100:
            return
        self.add(loop(r))
        self.times *= r
        before = (self.width, list(self.aside))
        for part in range(self.source.randint(0, 4)):
            self.part(len(self.aside))
        self.again(before)
        self.add(LOOP_END)
        self.times //= r

    def again(self, before):
        """Back to the widths that were; the rows that have been put aside since are taken away."""
        width, aside = before
        while len(self.aside) > len(aside):
            if self.aside[-1] + self.width > 64:
                self.cut(1)
                self.change_places()
                self.cut(1)
            self.take_behind()
        if self.source.random() < 0.3 and aside and aside[-1] == self.width:
            self.add(self.source.choice((ADD + ASIDE, MULTIPLY + ASIDE)), 2)
        self.widen_or_cut(width)

    def widen_or_cut(self, width):
        if self.width < width or self.source.random() < 0.3:
            self.matrix(width)
        elif self.width > width:
            self.cut(width)

    def part(self, base):
        choice = self.source.randrange(14)
        if choice > 11 and self.nets:
            self.use()
        elif choice < 3:
            self.plain()
        elif choice < 7:
            self.with_aside(base)
        elif choice == 7:
            self.matrix(self.source.randint(1, self.most))
        elif choice == 8:
            self.cut(self.source.randint(1, self.width))
        elif choice < 11:
            self.loop()
        elif self.source.random() < 0.3:
            self.greatest()

    def ended(self):
        self.again((self.width, []))
        return net(self.width_in, *self.layers, END)


def draw_net(source, nets, most=7, parts=14):
    """A net's bytes, and its widths in and out and the layers that it does."""
    drawn = Drawn(source, nets, most)
    for part in range(source.randint(0, parts)):
        drawn.part(0)
    made = drawn.ended()
    return made, (drawn.width_in, drawn.width, drawn.done)


def draw_house(source, places):
    """Nets by place, of which each may use those below it."""
    nets = {}
    told = {}
    for place in places:
        nets[place], told[place] = draw_net(source, told)
    return nets, told
