"""What the document asks, reckoned another way: by fractions, and by searching through a kind's numbers."""

import math
from fractions import Fraction

from support import BITS, HIDDEN, INFINITY, MINUS, PLAIN, floated


def whole_value(kind, pattern):
    if kind % 2 == 0 and pattern >> (BITS[kind] - 1):
        return pattern - (1 << BITS[kind])
    return pattern


def whole_bits(kind, value):
    least = -(1 << (BITS[kind] - 1)) if kind % 2 == 0 else 0
    if least <= value < least + (1 << BITS[kind]):
        return value % (1 << BITS[kind])
    return None


def is_none(kind, pattern):
    return math.isnan(floated(kind, pattern))


def is_infinite(kind, pattern):
    return math.isinf(floated(kind, pattern))


def minus(kind, pattern):
    return pattern >= MINUS[kind]


def exact(kind, pattern):
    return Fraction(floated(kind, pattern))


def signed(kind, negative, size):
    return size + MINUS[kind] if negative else size


def size_value(kind, size):
    """As if the row of numbers went on beyond the greatest."""
    if size == INFINITY[kind]:
        return 2 * exact(kind, size - (1 << HIDDEN[kind]))
    return exact(kind, size)


def rounded(kind, value, negative, way):
    """The bits of a number of the kind for a value; negative is asked only if the value is 0."""
    if value == 0:
        return signed(kind, negative, 0)
    negative = value < 0
    value = abs(value)
    low, high = 0, INFINITY[kind]
    while high - low > 1:
        middle = (low + high) // 2
        if exact(kind, middle) <= value:
            low = middle
        else:
            high = middle
    if exact(kind, low) == value:
        return signed(kind, negative, low)
    below, above = value - exact(kind, low), size_value(kind, high) - value
    up = {0: above < below or (above == below and high % 2 == 0), 1: negative, 2: not negative, 3: False}[way]
    return signed(kind, negative, high if up else low)


def made_whole(value, way):
    """round of a fraction goes to the nearest, of two as near to the even one."""
    return {0: round, 1: math.floor, 2: math.ceil, 3: math.trunc}[way](value)


def cast(old, new, way, pattern):
    if old < 6:
        value = whole_value(old, pattern)
        return whole_bits(new, value) if new < 6 else rounded(new, Fraction(value), False, way)
    if is_none(old, pattern):
        return None if new < 6 else PLAIN[new]
    if is_infinite(old, pattern):
        return None if new < 6 else signed(new, minus(old, pattern), INFINITY[new])
    if new < 6:
        return whole_bits(new, made_whole(exact(old, pattern), way))
    return rounded(new, exact(old, pattern), minus(old, pattern), way)


def whole(kind, way, parts, pattern):
    if is_none(kind, pattern):
        return PLAIN[kind]
    if is_infinite(kind, pattern):
        return pattern
    value = Fraction(made_whole(exact(kind, pattern) * 2 ** parts, way), 2 ** parts)
    return rounded(kind, value, minus(kind, pattern), 0)


def rest(kind, way, parts, pattern):
    if is_none(kind, pattern):
        return PLAIN[kind]
    if is_infinite(kind, pattern):
        return 0
    return rounded(kind, exact(kind, pattern) - exact(kind, whole(kind, way, parts, pattern)), False, 0)


def power_of(value):
    """The greatest e with 2^e no more than the value."""
    e = 0
    while Fraction(2) ** e > value:
        e -= 1
    while Fraction(2) ** (e + 1) <= value:
        e += 1
    return e


def split(kind, pattern):
    if is_none(kind, pattern):
        return PLAIN[kind], PLAIN[kind]
    sign = -1 if minus(kind, pattern) else 1
    if is_infinite(kind, pattern):
        return INFINITY[kind], rounded(kind, Fraction(sign), False, 0)
    if exact(kind, pattern) == 0:
        return INFINITY[kind] + MINUS[kind], rounded(kind, Fraction(sign), False, 0)
    e = power_of(abs(exact(kind, pattern)))
    return rounded(kind, Fraction(e), False, 0), rounded(kind, exact(kind, pattern) / Fraction(2) ** e, False, 0)


def join(kind, part, power):
    if is_none(kind, part) or is_none(kind, power):
        return PLAIN[kind]
    negative = minus(kind, part)
    if is_infinite(kind, power):
        factor = 0 if minus(kind, power) else math.inf
        product = abs(floated(kind, part)) * factor
        return PLAIN[kind] if math.isnan(product) else signed(kind, negative, INFINITY[kind] if product else 0)
    if is_infinite(kind, part):
        return part
    e = math.floor(exact(kind, power))
    if abs(e) > 3000 and exact(kind, part) != 0:
        return signed(kind, negative, INFINITY[kind] if e > 0 else 0)
    e = max(-3000, min(3000, e))
    return rounded(kind, exact(kind, part) * Fraction(2) ** e, negative, 0)


def do_whole(kind, op, a, b):
    x, y = whole_value(kind, a), whole_value(kind, b)
    value = [x + y, x - y, x * y, min(x, y), max(x, y)][op]
    return value % (1 << BITS[kind])


def do_broken(kind, op, a, b):
    if is_none(kind, a) or is_none(kind, b):
        return PLAIN[kind]
    if op in (3, 4):
        ordered = sorted([a, b], key=lambda p: (floated(kind, p), not minus(kind, p)))
        return ordered[op - 3]
    if op == 1:
        return do_broken(kind, 0, a, b ^ MINUS[kind])
    if op == 0:
        return added(kind, a, b)
    negative = minus(kind, a) != minus(kind, b)
    infinite, zero = signed(kind, negative, INFINITY[kind]), signed(kind, negative, 0)
    if op == 5 and (is_infinite(kind, b) or exact(kind, b) == 0):
        if is_infinite(kind, b):
            return PLAIN[kind] if is_infinite(kind, a) else zero
        return PLAIN[kind] if floated(kind, a) == 0 else infinite
    if is_infinite(kind, a) or is_infinite(kind, b):
        return PLAIN[kind] if 0 in (floated(kind, a), floated(kind, b)) else infinite
    value = exact(kind, a) * exact(kind, b) if op == 2 else exact(kind, a) / exact(kind, b)
    return rounded(kind, value, negative, 0)


def added(kind, a, b):
    if is_infinite(kind, a) or is_infinite(kind, b):
        total = floated(kind, a) + floated(kind, b)
        return PLAIN[kind] if math.isnan(total) else signed(kind, total < 0, INFINITY[kind])
    return rounded(kind, exact(kind, a) + exact(kind, b), minus(kind, a) and minus(kind, b), 0)


def more(kind, a, b, c):
    if is_none(kind, a) or is_none(kind, b) or is_none(kind, c):
        return PLAIN[kind]
    if is_infinite(kind, a) or is_infinite(kind, b):
        product = do_broken(kind, 2, a, b)
        return do_broken(kind, 0, product, c)
    if is_infinite(kind, c):
        return c
    product = exact(kind, a) * exact(kind, b)
    negative = minus(kind, a) != minus(kind, b)
    return rounded(kind, product + exact(kind, c), negative and minus(kind, c), 0)


def valued(kind, pattern):
    """Python compares its whole numbers and its doubles without an error, and each broken kind's are doubles."""
    return whole_value(kind, pattern) if kind < 6 else floated(kind, pattern)


def compares(op, kind_a, a, kind_b, b):
    x, y = valued(kind_a, a), valued(kind_b, b)
    return [x == y, x < y, x <= y, x != x or y != y][op]


def classes(kind, numbers):
    """numbers has None where one is missing."""
    there = [(pattern, valued(kind, pattern)) for pattern in numbers if pattern is not None]
    finite = [(pattern, x) for pattern, x in there if not (math.isnan(x) or abs(x) == math.inf)]
    wholes = [int(x) for pattern, x in finite if x == int(x)]
    least = {6: Fraction(1, 2 ** 14), 7: Fraction(1, 2 ** 126), 8: Fraction(1, 2 ** 1022)}.get(kind, 0)
    return [len(there), len(numbers) - len(there), len([x for pattern, x in there if math.isnan(x)]),
            len([x for pattern, x in there if abs(x) == math.inf]), len([x for pattern, x in finite if x == 0]),
            len([x for pattern, x in finite if x < 0]), len([x for pattern, x in finite if 0 < abs(x) < least]),
            len(wholes), len([x for x in wholes if x & 1])]


def summed(kind, numbers):
    there = [valued(kind, pattern) for pattern in numbers if pattern is not None]
    if kind < 6:
        return [len(there)] + [(sum(there) >> shift) & (2 ** 64 - 1) for shift in (0, 64)]
    if not all(math.isfinite(x) for x in there):
        endless = sum(x for x in there if not math.isfinite(x))
        return [len(there), PLAIN[8] if math.isnan(endless) else signed(8, endless < 0, INFINITY[8]), 0]
    return [len(there), rounded(8, sum((Fraction(x) for x in there), Fraction(0)), False, 0), 0]


def ends(kind, numbers):
    there = [pattern for pattern in numbers if pattern is not None]
    if kind < 6:
        ordered = [x & (2 ** 64 - 1) for x in sorted(whole_value(kind, pattern) for pattern in there)]
    else:
        ordered = sorted([pattern for pattern in there if not is_none(kind, pattern)],
                         key=lambda pattern: (floated(kind, pattern), not minus(kind, pattern)))
    return [len(ordered), ordered[0], ordered[-1]] if ordered else [-5]
