"""Lists of calls on one house, and what is answered to them."""

from shortrowsdesk.matrices import is_size, product, unweave, weave, woven_size
from shortrowsdesk.nets import judged
from shortrowsdesk.rows import greatest_place, row_sum
from shortrowsdesk.singles import narrow, step, widen

PLACES = 8
NO_PLACE = -20
NOT_AS_TOLD = -21


class House:
    def __init__(self):
        # By place what is known of the net that is kept there, as the walk that found it whole; None: no net.
        self.nets = [None] * PLACES


class Calls:
    # One list of calls, read from its beginning to its end.
    def __init__(self, numbers):
        self.numbers = numbers
        self.place = 0

    def are_left(self):
        return self.place < len(self.numbers)

    def take_number(self):
        self.place += 1
        return self.numbers[self.place - 1]

    def take_row(self):
        count = self.take_number()
        self.place += count
        return self.numbers[self.place - count:self.place]


def call_step(house, calls):
    s = calls.take_number()
    a = calls.take_number()
    b = calls.take_number()
    return [0, step(s, a, b)]


def call_narrow(house, calls):
    return [0] + [narrow(x) for x in calls.take_row()]


def call_widen(house, calls):
    return [0] + [widen(short) for short in calls.take_row()]


def call_greatest(house, calls):
    row = calls.take_row()
    if len(row) == 0:
        return [NOT_AS_TOLD]
    return [0, greatest_place(row)]


def call_sum(house, calls):
    s = calls.take_number()
    a = calls.take_row()
    b = calls.take_row()
    if len(a) != len(b):
        return [NOT_AS_TOLD]
    return [0, row_sum(s, a, b)]


def call_weave(house, calls):
    k = calls.take_number()
    n = calls.take_number()
    shorts = calls.take_row()
    if not is_size(k) or not is_size(n) or len(shorts) != k * n:
        return [NOT_AS_TOLD]
    return [0] + weave(k, n, shorts)


def call_unweave(house, calls):
    k = calls.take_number()
    n = calls.take_number()
    woven = calls.take_row()
    if not is_size(k) or not is_size(n) or len(woven) != woven_size(k, n):
        return [NOT_AS_TOLD]
    return [0] + unweave(k, n, woven)


def call_product(house, calls):
    m = calls.take_number()
    k = calls.take_number()
    n = calls.take_number()
    a = calls.take_row()
    woven = calls.take_row()
    c = calls.take_row()
    if not is_size(m) or not is_size(k) or not is_size(n):
        return [NOT_AS_TOLD]
    if len(a) != m * k or len(woven) != woven_size(k, n) or len(c) != m * n:
        return [NOT_AS_TOLD]
    return [0] + product(m, k, n, a, woven, c)


def call_judge(house, calls):
    s = calls.take_number()
    net = calls.take_row()
    if s > PLACES:
        return [NO_PLACE]
    fault = judged(net, house.nets[:s])[0]
    if fault is not None:
        return list(fault)
    return [0]


CALLS = {
    0: call_step,
    1: call_narrow,
    2: call_widen,
    3: call_greatest,
    4: call_sum,
    5: call_weave,
    6: call_unweave,
    7: call_product,
    8: call_judge,
}


def answers(calls):
    house = House()
    left = Calls(calls)
    given = []
    while left.are_left():
        answer = CALLS[left.take_number()](house, left)
        given.append(len(answer))
        given.extend(answer)
    return given
