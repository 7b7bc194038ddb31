"""What sum and ends tell of a column's numbers, none of which is missing."""

from ninekinds.arithmetic import rank
from ninekinds.broken import (
    DOUBLE, INFINITY, NEAREST, NO_NUMBER, Finite, bits_of_finite, is_infinite, is_no_number, sign_of, with_sign,
)
from ninekinds.kinds import is_broken, whole_of_bits
from ninekinds.worth import FINEST_POWER, finest_size

WORD_BITS = 64


def words_of_sum(kind, numbers):
    if is_broken(kind):
        return [double_of_sum(kind, numbers), 0]
    whole = sum([whole_of_bits(kind, bits) for bits in numbers])
    return [lowest_word(whole), lowest_word(whole >> WORD_BITS)]


def lowest_word(whole):
    return whole % (1 << WORD_BITS)


def double_of_sum(kind, numbers):
    if any([is_no_number(kind, bits) for bits in numbers]):
        return NO_NUMBER[DOUBLE]
    signs = [sign_of(kind, bits) for bits in numbers if is_infinite(kind, bits)]
    if 0 in signs and 1 in signs:
        return NO_NUMBER[DOUBLE]
    if len(signs) > 0:
        return with_sign(DOUBLE, signs[0], INFINITY[DOUBLE])
    size = sum([finest_size(kind, bits) for bits in numbers])
    return bits_of_finite(DOUBLE, Finite(1 if size < 0 else 0, abs(size), FINEST_POWER), NEAREST)


def numbers_in_order(kind, numbers):
    """Those of the numbers that ends looks at: all but what is no number."""
    if is_broken(kind):
        return [bits for bits in numbers if not is_no_number(kind, bits)]
    return numbers


def place_in_order(kind, bits):
    return rank(kind, bits) if is_broken(kind) else whole_of_bits(kind, bits)


def least_and_greatest(kind, numbers):
    least = min(numbers, key=lambda bits: place_in_order(kind, bits))
    greatest = max(numbers, key=lambda bits: place_in_order(kind, bits))
    return [end_word(kind, least), end_word(kind, greatest)]


def end_word(kind, bits):
    """A whole number by 64 bits, with its sign drawn on; a broken one by the bits it has."""
    return bits if is_broken(kind) else lowest_word(whole_of_bits(kind, bits))
