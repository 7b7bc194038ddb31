"""What cast, whole, rest, split and join make of one row's numbers, by their bits."""

from ninekinds.arithmetic import subtracted
from ninekinds.broken import (
    DOWN, INFINITY, NEAREST, NO_NUMBER, Finite, bits_of_finite, bits_of_whole_number, finite_of_bits, is_infinite,
    is_no_number, is_zero, sign_of, whole_of_finite, with_sign, without_low_bits,
)
from ninekinds.kinds import bits_of_whole, has_whole, is_broken, whole_of_bits

# In each broken kind every number but 0 is beyond the greatest if it's taken times 2 to this power, and comes to 0 if
# to minus this: a power further out makes no difference, but a shift by as much would be too long.
FURTHEST_POWER = 4096


def cast_number(old, new, way, bits):
    """The number of kind old as one of kind new; None if there is none."""
    if is_broken(old):
        if is_broken(new):
            return broken_as_broken(old, new, way, bits)
        return broken_as_whole(old, new, way, bits)
    whole = whole_of_bits(old, bits)
    if is_broken(new):
        return bits_of_whole_number(new, whole, way)
    return bits_if_kind_has(new, whole)


def bits_if_kind_has(kind, whole):
    return bits_of_whole(kind, whole) if has_whole(kind, whole) else None


def broken_as_whole(old, new, way, bits):
    if is_no_number(old, bits) or is_infinite(old, bits):
        return None
    return bits_if_kind_has(new, whole_of_finite(finite_of_bits(old, bits), way))


def broken_as_broken(old, new, way, bits):
    if is_no_number(old, bits):
        return NO_NUMBER[new]
    if is_infinite(old, bits):
        return with_sign(new, sign_of(old, bits), INFINITY[new])
    return bits_of_finite(new, finite_of_bits(old, bits), way)


def whole_number(kind, way, parts, bits):
    """The number made a multiple of 1 / 2^parts, which each broken kind has."""
    if is_no_number(kind, bits):
        return NO_NUMBER[kind]
    if is_infinite(kind, bits):
        return bits
    number = finite_of_bits(kind, bits)
    size = without_low_bits(number.size, -parts - number.power, number.sign, way)
    return bits_of_finite(kind, Finite(number.sign, size, -parts), NEAREST)


def rest_number(kind, way, parts, bits):
    if is_infinite(kind, bits):
        return 0
    return subtracted(kind, bits, whole_number(kind, way, parts, bits))


def power_number(kind, bits):
    """The whole number e with 2^e no more than the number without its sign, and 2^(e + 1) more."""
    if is_no_number(kind, bits):
        return NO_NUMBER[kind]
    if is_infinite(kind, bits):
        return INFINITY[kind]
    if is_zero(kind, bits):
        return with_sign(kind, 1, INFINITY[kind])
    number = finite_of_bits(kind, bits)
    return bits_of_whole_number(kind, number.power + number.size.bit_length() - 1, NEAREST)


def part_number(kind, bits):
    """The number by 2 to its power: 1 or more, and below 2, with its sign."""
    if is_no_number(kind, bits):
        return NO_NUMBER[kind]
    sign = sign_of(kind, bits)
    if is_infinite(kind, bits) or is_zero(kind, bits):
        return bits_of_finite(kind, Finite(sign, 1, 0), NEAREST)
    size = finite_of_bits(kind, bits).size
    return bits_of_finite(kind, Finite(sign, size, 1 - size.bit_length()), NEAREST)


def joined(kind, part, power):
    """part times 2 to power, where power is first rounded down to a whole number."""
    if is_no_number(kind, part) or is_no_number(kind, power):
        return NO_NUMBER[kind]
    if is_infinite(kind, power):
        return joined_by_infinity(kind, part, sign_of(kind, power))
    if is_infinite(kind, part):
        return part
    number = finite_of_bits(kind, part)
    by = whole_of_finite(finite_of_bits(kind, power), DOWN)
    by = max(-FURTHEST_POWER, min(by, FURTHEST_POWER))
    return bits_of_finite(kind, Finite(number.sign, number.size, number.power + by), NEAREST)


def joined_by_infinity(kind, part, power_sign):
    sign = sign_of(kind, part)
    if power_sign == 1:
        return NO_NUMBER[kind] if is_infinite(kind, part) else with_sign(kind, sign, 0)
    return NO_NUMBER[kind] if is_zero(kind, part) else with_sign(kind, sign, INFINITY[kind])
