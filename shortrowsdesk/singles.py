"""Singles and shorts, told as their bits: narrowed, widened, and one step s + a * b."""

SIGN = 0x80000000
INFINITE = 0x7F800000
BIT_22 = 0x400000
# The bits of 2^-126, below which nothing but 0 is left.
LEAST = 0x800000
FRACTION = 0x7FFFFF
# What comes of 0 times an infinity, and of infinities of different signs.
MADE_NAN = 4290772992


def is_nan(x):
    return (x & (INFINITE | FRACTION)) > INFINITE


def is_infinite(x):
    return (x & (INFINITE | FRACTION)) == INFINITE


def counts_as_zero(x):
    return (x & INFINITE) == 0


def widen(short):
    return short << 16


def narrow(x):
    if is_nan(x):
        return (x >> 16) | 64
    if counts_as_zero(x):
        return (x & SIGN) >> 16
    # An infinity needs no row of its own: its lower half and bit 16 are 0, so its upper half stays.
    return (x + 32767 + ((x >> 16) & 1)) >> 16


def clamped(x):
    return 0 if x & SIGN else x


def single_of(number):
    # The bits of a whole number from 0 on, of at most 24 bits.
    if number == 0:
        return 0
    spare = 24 - number.bit_length()
    # Added, not joined: the uppermost bit of what is moved up is one unit of the exponent.
    return ((149 - spare) << 23) + (number << spare)


def step(s, a, b):
    s_power = (s >> 23) & 255
    a_power = (a >> 7) & 255
    b_power = (b >> 7) & 255
    if s_power == 255 or a_power == 255 or b_power == 255:
        return step_beyond(s, widen(a), widen(b))
    product_sign = ((a ^ b) << 16) & SIGN
    # Both are counted in units of 2^-300, in which every single and every product is whole.
    exact = 0
    if s_power != 0:
        exact = ((s & FRACTION) | LEAST) << (s_power + 150)
    if s & SIGN:
        exact = -exact
    if a_power != 0 and b_power != 0:
        product = (((a & 127) | 128) * ((b & 127) | 128)) << (a_power + b_power + 32)
        exact += -product if product_sign else product
    if exact == 0:
        return s & product_sign
    return rounded(exact)


def step_beyond(s, a, b):
    # A step where a NaN or an infinity is among the three; a and b are widened.
    for x in (a, b, s):
        if is_nan(x):
            return x | BIT_22
    if not is_infinite(a) and not is_infinite(b):
        return s
    product = ((a ^ b) & SIGN) | INFINITE
    if counts_as_zero(a) or counts_as_zero(b):
        return MADE_NAN
    if is_infinite(s) and s != product:
        return MADE_NAN
    return product


def rounded(exact):
    # The single next to a number that isn't 0, told in units of 2^-300.
    sign = SIGN if exact < 0 else 0
    size = abs(exact)
    # Never below 1: in these units every sum of a step is a multiple of 2^34.
    spare = size.bit_length() - 24
    # Of two as near the even one: a half goes up only where what's kept is odd.
    kept = (size + (1 << (spare - 1)) - 1 + ((size >> spare) & 1)) >> spare
    # Added, not joined: kept's uppermost bit is one unit of the exponent, and if it grew to 2^24 two of them.
    bits = ((spare - 151) << 23) + kept
    if bits >= INFINITE:
        return sign | INFINITE
    if bits < LEAST:
        return sign
    return sign | bits
