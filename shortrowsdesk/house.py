"""Lists of calls on one house, and what is answered to them."""

from shortrowsdesk.matrices import is_size, product, unweave, weave, woven_size
from shortrowsdesk.nets import joined, judged
from shortrowsdesk.rows import greatest_place, row_sum
from shortrowsdesk.running import row_behind, watched
from shortrowsdesk.singles import narrow, step, widen

PLACES = 8
MOST_ROWS = 64
MOST_WATCHED = 8192
NO_PLACE = -20
NOT_AS_TOLD = -21


class House:
    def __init__(self):
        # By place what is known of the net that is kept there, as the walk that found it whole; None: no net.
        self.nets = [None] * PLACES

    def kept_at(self, s):
        # None too of a place that isn't there.
        return self.nets[s] if s < PLACES else None

    def clear_from(self, s):
        for place in range(s, PLACES):
            self.nets[place] = None


class Calls:
    # One list of calls, read from its beginning to its end.
    def __init__(self, numbers):
        self.numbers = numbers
        self.place = 0

    def are_left(self):
        return self.place < len(self.numbers)

    def take_number(self):
        self.place += 1
        return self.numbers[self.place - 1]

    def take_row(self):
        count = self.take_number()
        self.place += count
        return self.numbers[self.place - count:self.place]


def call_step(house, calls):
    s = calls.take_number()
    a = calls.take_number()
    b = calls.take_number()
    return [0, step(s, a, b)]


def call_narrow(house, calls):
    return [0] + [narrow(x) for x in calls.take_row()]


def call_widen(house, calls):
    return [0] + [widen(short) for short in calls.take_row()]


def call_greatest(house, calls):
    row = calls.take_row()
    if len(row) == 0:
        return [NOT_AS_TOLD]
    return [0, greatest_place(row, 0, len(row))]


def call_sum(house, calls):
    s = calls.take_number()
    a = calls.take_row()
    b = calls.take_row()
    if len(a) != len(b):
        return [NOT_AS_TOLD]
    return [0, row_sum(s, a, b)]


def call_weave(house, calls):
    k = calls.take_number()
    n = calls.take_number()
    shorts = calls.take_row()
    if not is_size(k) or not is_size(n) or len(shorts) != k * n:
        return [NOT_AS_TOLD]
    return [0] + weave(k, n, shorts)


def call_unweave(house, calls):
    k = calls.take_number()
    n = calls.take_number()
    woven = calls.take_row()
    if not is_size(k) or not is_size(n) or len(woven) != woven_size(k, n):
        return [NOT_AS_TOLD]
    return [0] + unweave(k, n, woven)


def call_product(house, calls):
    m = calls.take_number()
    k = calls.take_number()
    n = calls.take_number()
    a = calls.take_row()
    woven = calls.take_row()
    c = calls.take_row()
    if not is_size(m) or not is_size(k) or not is_size(n):
        return [NOT_AS_TOLD]
    if len(a) != m * k or len(woven) != woven_size(k, n) or len(c) != m * n:
        return [NOT_AS_TOLD]
    return [0] + product(m, k, n, a, woven, c)


def examined(house, s, net):
    # The refusal, or None; and what is known of a net that is whole for place s, or None.
    if s > PLACES:
        return ([NO_PLACE], None)
    found = judged(net, house.nets[:s])
    if found[0] is not None:
        return (list(found[0]), None)
    return (None, found[1])


def call_judge(house, calls):
    s = calls.take_number()
    found = examined(house, s, calls.take_row())
    return [0] if found[0] is None else found[0]


def call_tell(house, calls):
    s = calls.take_number()
    found = examined(house, s, calls.take_row())
    if found[0] is not None:
        return found[0]
    net = found[1]
    return [0, net.width_in, net.width, net.need, len(net.layers), net.done]


def call_layer(house, calls):
    s = calls.take_number()
    i = calls.take_number()
    found = examined(house, s, calls.take_row())
    if found[0] is not None:
        return found[0]
    if i >= len(found[1].layers):
        return [NOT_AS_TOLD]
    layer = found[1].layers[i]
    return [0, layer.place, layer.byte, layer.width_before, layer.width_behind, layer.aside_before]


def call_join(house, calls):
    s = calls.take_number()
    net_a = calls.take_row()
    net_b = calls.take_row()
    a = examined(house, s, net_a)
    if a[0] is not None:
        return a[0]
    b = examined(house, s, net_b)
    if b[0] is not None:
        return [b[0][0] - 10, b[0][1]]
    if a[1].width != b[1].width_in:
        return [NOT_AS_TOLD]
    net = joined(net_a, net_b)
    whole = examined(house, s, net)
    return [0] + net if whole[0] is None else whole[0]


def call_keep(house, calls):
    s = calls.take_number()
    net = calls.take_row()
    if s >= PLACES:
        return [NO_PLACE]
    found = examined(house, s, net)
    if found[0] is not None:
        return found[0]
    house.clear_from(s)
    house.nets[s] = found[1]
    return [0]


def call_drop(house, calls):
    s = calls.take_number()
    if house.kept_at(s) is None:
        return [NO_PLACE]
    house.clear_from(s)
    return [0]


def call_kept(house, calls):
    kept = house.kept_at(calls.take_number())
    if kept is None:
        return [NO_PLACE]
    return [0] + kept.net


def call_run(house, calls):
    s = calls.take_number()
    row = calls.take_row()
    kept = house.kept_at(s)
    if kept is None:
        return [NO_PLACE]
    if len(row) != kept.width_in:
        return [NOT_AS_TOLD]
    return [0] + row_behind(s, kept, row)


def call_rows(house, calls):
    s = calls.take_number()
    rows = calls.take_row()
    kept = house.kept_at(s)
    if kept is None:
        return [NO_PLACE]
    width = kept.width_in
    if len(rows) % width != 0 or len(rows) > MOST_ROWS * width:
        return [NOT_AS_TOLD]
    answer = [0]
    for place in range(0, len(rows), width):
        answer.extend(row_behind(s, kept, rows[place:place + width]))
    return answer


def call_watch(house, calls):
    s = calls.take_number()
    n = calls.take_number()
    row = calls.take_row()
    kept = house.kept_at(s)
    if kept is None:
        return [NO_PLACE]
    if len(row) != kept.width_in or n > MOST_WATCHED:
        return [NOT_AS_TOLD]
    return [0] + watched(s, kept, row, n)


CALLS = {
    0: call_step,
    1: call_narrow,
    2: call_widen,
    3: call_greatest,
    4: call_sum,
    5: call_weave,
    6: call_unweave,
    7: call_product,
    8: call_judge,
    9: call_tell,
    10: call_layer,
    11: call_join,
    12: call_keep,
    13: call_drop,
    14: call_kept,
    15: call_run,
    16: call_rows,
    17: call_watch,
}


def answers(calls):
    house = House()
    left = Calls(calls)
    given = []
    while left.are_left():
        answer = CALLS[left.take_number()](house, left)
        given.append(len(answer))
        given.extend(answer)
    return given
