"""What the document's words say of numbers, reckoned in fractions, apart from the program's own way."""

import struct
from fractions import Fraction

from shortrowsdesk.house import answers

MADE_NAN = 4290772992
INFINITY = 0x7F800000
SIGN = 0x80000000


def only_answer(*call):
    """The answer to one call, made of whole numbers and rows."""
    given = answers(flat(call))
    if given[0] != len(given) - 1:
        raise AssertionError(f"the count is not that of the answer: {given}")
    return given[1:]


def all_answers(*calls):
    """The answers to several calls on one house, one list for each."""
    given = answers([number for call in calls for number in flat(call)])
    found = []
    while given:
        found.append(given[1:given[0] + 1])
        if len(found[-1]) != given[0]:
            raise AssertionError(f"the count is not that of the answer: {given}")
        given = given[given[0] + 1:]
    if len(found) != len(calls):
        raise AssertionError(f"{len(found)} answers to {len(calls)} calls")
    return found


def flat(call):
    numbers = []
    for part in call:
        if isinstance(part, list):
            numbers.append(len(part))
            numbers.extend(part)
        else:
            numbers.append(part)
    return numbers


def single(number):
    """The bits of a number that a single can be."""
    return struct.unpack(">I", struct.pack(">f", float(number)))[0]


def short(number):
    bits = single(number)
    if bits & 65535:
        raise AssertionError(f"{number} is no short")
    return bits >> 16


def power(exponent):
    return Fraction(2) ** exponent


def kind(bits):
    exponent = bits >> 23 & 255
    if exponent == 0:
        return "zero"
    if exponent < 255:
        return "number"
    return "nan" if bits & 0x7FFFFF else "infinity"


def value(bits):
    """A single's value as a fraction, one that counts as 0 being 0."""
    if kind(bits) == "zero":
        return Fraction(0)
    return Fraction(struct.unpack(">f", struct.pack(">I", bits))[0])


def minus(bits):
    return bits >> 31 == 1


def nearest(size, digits):
    """A fraction above 0, rounded to so many significant bits, of two as near the even one."""
    exponent = size.numerator.bit_length() - size.denominator.bit_length()
    if power(exponent) > size:
        exponent -= 1
    unit = power(exponent - digits + 1)
    return round(size / unit) * unit


def said_narrow(x):
    """Section 1's narrowing, by the nearest number of eight significant bits."""
    sign = 0x8000 if minus(x) else 0
    if kind(x) == "nan":
        return x >> 16 | 1 << 6
    if kind(x) == "zero":
        return sign
    if kind(x) == "infinity":
        return x >> 16
    size = nearest(abs(value(x)), 8)
    return sign | (INFINITY if size >= power(128) else single(size)) >> 16


def said_step(s, a, b):
    """Section 1's one step, point by point."""
    wide_a = a << 16
    wide_b = b << 16
    for bits in (wide_a, wide_b, s):
        if kind(bits) == "nan":
            return bits | 1 << 22
    kinds = sorted([kind(wide_a), kind(wide_b)])
    product_minus = minus(wide_a) != minus(wide_b)
    if kinds == ["infinity", "zero"]:
        return MADE_NAN
    if "infinity" in kinds and kind(s) == "infinity" and product_minus != minus(s):
        return MADE_NAN
    if "infinity" in kinds:
        return INFINITY | (SIGN if product_minus else 0)
    if kind(s) == "infinity":
        return s
    exact = value(s) + value(wide_a) * value(wide_b)
    if exact == 0:
        return SIGN if minus(s) and product_minus else 0
    sign = SIGN if exact < 0 else 0
    size = nearest(abs(exact), 24)
    if size >= power(128):
        return sign | INFINITY
    if size < power(-126):
        return sign
    return sign | single(size)


def said_sum(s, a, b):
    left = list(a) + [0] * (len(a) % 2)
    right = list(b) + [0] * (len(b) % 2)
    for p in range(len(left) // 2):
        s = said_step(s, left[2 * p + 1], right[2 * p + 1])
        s = said_step(s, left[2 * p], right[2 * p])
    return s


def said_woven(k, n, shorts):
    """Blocks of sixteen columns, each of pairs of rows, each of sixteen columns, each of two shorts."""
    woven = []
    for block in range(0, n, 16):
        for pair in range(0, k, 2):
            for column in range(block, block + 16):
                for row in (pair, pair + 1):
                    inside = row < k and column < n
                    woven.append(shorts[row * n + column] if inside else 0)
    return woven
