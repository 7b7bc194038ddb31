"""Numbers of the broken kinds: read from their bits, and rounded into bits by one of the four ways."""

NEAREST = 0
DOWN = 1
UP = 2
TOWARDS_ZERO = 3

DOUBLE = 8

# By kind; the whole kinds have none of these.
PLACES = (0, 0, 0, 0, 0, 0, 11, 24, 53)
LEAST_POWER = (0, 0, 0, 0, 0, 0, -24, -149, -1074)
MINUS = (0, 0, 0, 0, 0, 0, 0x8000, 0x80000000, 0x8000000000000000)
INFINITY = (0, 0, 0, 0, 0, 0, 0x7C00, 0x7F800000, 0x7FF0000000000000)
NO_NUMBER = (0, 0, 0, 0, 0, 0, 0x7E00, 0x7FC00000, 0x7FF8000000000000)


class Finite:
    """The number size * 2^power, without an error; with a minus if sign is 1, which 0 may have too."""

    def __init__(self, sign, size, power):
        self.sign = sign
        self.size = size
        self.power = power


def is_way(way):
    return NEAREST <= way <= TOWARDS_ZERO


def sign_of(kind, bits):
    return 1 if bits >= MINUS[kind] else 0


def is_no_number(kind, bits):
    return bits % MINUS[kind] > INFINITY[kind]


def is_infinite(kind, bits):
    return bits % MINUS[kind] == INFINITY[kind]


def is_zero(kind, bits):
    return bits % MINUS[kind] == 0


def is_tiny(kind, bits):
    """Whether it is one of those with fewer bits, nearer to 0 than the least with all of them, but not 0."""
    return 0 < bits % MINUS[kind] < 1 << (PLACES[kind] - 1)


def with_sign(kind, sign, bits):
    return bits + MINUS[kind] if sign == 1 else bits


def finite_of_bits(kind, bits):
    size = bits % MINUS[kind]
    step = size >> (PLACES[kind] - 1)
    # Steps 0 and 1 stand for the same power; from step 1 on the topmost bit is not written but meant.
    above = max(step - 1, 0)
    return Finite(sign_of(kind, bits), size - (above << (PLACES[kind] - 1)), LEAST_POWER[kind] + above)


def leads_outward(sign, way):
    """Whether the way leads away from 0, for a number with this sign."""
    return way == DOWN if sign == 1 else way == UP


def without_low_bits(size, drop, sign, way):
    """size by 2^drop, made whole by the way that a number with this sign goes."""
    if drop <= 0:
        return size << -drop
    kept = size >> drop
    lost = size - (kept << drop)
    if lost == 0:
        return kept
    if way == NEAREST:
        half = 1 << (drop - 1)
        return kept + 1 if lost > half or (lost == half and kept % 2 == 1) else kept
    return kept + 1 if leads_outward(sign, way) else kept


def bits_of_finite(kind, number, way):
    """The number rounded to one of the kind."""
    if number.size == 0:
        return with_sign(kind, number.sign, 0)
    drop = max(number.size.bit_length() - PLACES[kind], LEAST_POWER[kind] - number.power)
    size = without_low_bits(number.size, drop, number.sign, way)
    above = number.power + drop - LEAST_POWER[kind]
    # The sum is right too where size has its topmost bit (that is one step more), or came to one bit more by rounding.
    bits = (above << (PLACES[kind] - 1)) + size
    if bits >= INFINITY[kind]:
        bits = bits_beyond_greatest(kind, number.sign, way)
    return with_sign(kind, number.sign, bits)


def bits_beyond_greatest(kind, sign, way):
    if way == NEAREST or leads_outward(sign, way):
        return INFINITY[kind]
    return INFINITY[kind] - 1


def finite_of_whole(whole):
    return Finite(1 if whole < 0 else 0, abs(whole), 0)


def bits_of_whole_number(kind, whole, way):
    return bits_of_finite(kind, finite_of_whole(whole), way)


def whole_of_finite(number, way):
    size = without_low_bits(number.size, -number.power, number.sign, way)
    return -size if number.sign == 1 else size
