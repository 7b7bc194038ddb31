"""What do and more make of one row's numbers, by their bits."""

from ninekinds.broken import (
    INFINITY, MINUS, NEAREST, NO_NUMBER, PLACES, Finite, bits_of_finite, finite_of_bits, is_infinite, is_no_number,
    is_zero, sign_of, with_sign,
)
from ninekinds.kinds import bits_of_whole, is_broken, whole_of_bits

SUM = 0
LESS = 1
PRODUCT = 2
LESSER = 3
GREATER = 4
QUOTIENT = 5


def is_operation(op):
    return SUM <= op <= QUOTIENT


def done(kind, op, a, b):
    if is_broken(kind):
        return done_broken(kind, op, a, b)
    return bits_of_whole(kind, done_whole(op, whole_of_bits(kind, a), whole_of_bits(kind, b)))


def done_whole(op, a, b):
    if op == SUM:
        return a + b
    if op == LESS:
        return a - b
    if op == PRODUCT:
        return a * b
    return min(a, b) if op == LESSER else max(a, b)


def done_broken(kind, op, a, b):
    if is_no_number(kind, a) or is_no_number(kind, b):
        return NO_NUMBER[kind]
    if op == SUM:
        return added(kind, a, b)
    if op == LESS:
        return subtracted(kind, a, b)
    if op == PRODUCT:
        return multiplied(kind, a, b)
    if op == QUOTIENT:
        return divided(kind, a, b)
    return lesser(kind, a, b) if op == LESSER else greater(kind, a, b)


def added(kind, a, b):
    if is_no_number(kind, a) or is_no_number(kind, b):
        return NO_NUMBER[kind]
    if is_infinite(kind, a):
        return NO_NUMBER[kind] if is_infinite(kind, b) and a != b else a
    if is_infinite(kind, b):
        return b
    return bits_of_finite(kind, exact_sum(finite_of_bits(kind, a), finite_of_bits(kind, b)), NEAREST)


def subtracted(kind, a, b):
    return added(kind, a, (b + MINUS[kind]) % (2 * MINUS[kind]))


def exact_sum(x, y):
    """A sum that is 0 has a minus only if both have one."""
    power = min(x.power, y.power)
    whole = signed_size(x, power) + signed_size(y, power)
    if whole == 0:
        return Finite(x.sign & y.sign, 0, power)
    return Finite(1 if whole < 0 else 0, abs(whole), power)


def signed_size(x, power):
    """How many times 2^power the number is, where that is a whole number."""
    size = x.size << (x.power - power)
    return -size if x.sign == 1 else size


def multiplied(kind, a, b):
    sign = sign_of(kind, a) ^ sign_of(kind, b)
    if is_infinite(kind, a) or is_infinite(kind, b):
        if is_zero(kind, a) or is_zero(kind, b):
            return NO_NUMBER[kind]
        return with_sign(kind, sign, INFINITY[kind])
    return bits_of_finite(kind, exact_product(finite_of_bits(kind, a), finite_of_bits(kind, b)), NEAREST)


def exact_product(x, y):
    return Finite(x.sign ^ y.sign, x.size * y.size, x.power + y.power)


def divided(kind, a, b):
    sign = sign_of(kind, a) ^ sign_of(kind, b)
    if is_infinite(kind, a):
        return NO_NUMBER[kind] if is_infinite(kind, b) else with_sign(kind, sign, INFINITY[kind])
    if is_zero(kind, b):
        return NO_NUMBER[kind] if is_zero(kind, a) else with_sign(kind, sign, INFINITY[kind])
    if is_infinite(kind, b) or is_zero(kind, a):
        return with_sign(kind, sign, 0)
    return bits_of_finite(kind, quotient(finite_of_bits(kind, a), finite_of_bits(kind, b), PLACES[kind]), NEAREST)


def quotient(x, y, places):
    """x by y, near enough that it is rounded to this many places as the very quotient is."""
    longer = places + 2 + y.size.bit_length() - x.size.bit_length()
    shifted = x.size << longer
    size = shifted // y.size
    # One bit more, far below those that are kept, tells that the quotient is a little greater than size.
    more = 0 if size * y.size == shifted else 1
    return Finite(x.sign ^ y.sign, 2 * size + more, x.power - y.power - longer - 1)


def rank(kind, bits):
    """A whole number by which numbers are in order, -0 below +0."""
    return MINUS[kind] - 1 - bits if bits >= MINUS[kind] else bits


def lesser(kind, a, b):
    return a if rank(kind, a) <= rank(kind, b) else b


def greater(kind, a, b):
    return b if rank(kind, a) <= rank(kind, b) else a


def multiplied_and_added(kind, a, b, c):
    """a times b and c, rounded once."""
    if is_no_number(kind, a) or is_no_number(kind, b) or is_no_number(kind, c):
        return NO_NUMBER[kind]
    if is_infinite(kind, a) or is_infinite(kind, b):
        return added(kind, multiplied(kind, a, b), c)
    if is_infinite(kind, c):
        return c
    product = exact_product(finite_of_bits(kind, a), finite_of_bits(kind, b))
    return bits_of_finite(kind, exact_sum(product, finite_of_bits(kind, c)), NEAREST)
