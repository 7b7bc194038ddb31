"""What numbers are worth, whatever their kinds: by that they are compared, and sorted into classes."""

from ninekinds.arithmetic import signed_size
from ninekinds.broken import finite_of_bits, is_infinite, is_no_number, is_tiny, sign_of
from ninekinds.kinds import is_broken, whole_of_bits

ALIKE = 0
BELOW = 1
NO_MORE = 2
UNORDERED = 3

# Each finite number, of whatever kind, is a whole number times 2 to this power: the double's least.
FINEST_POWER = -1074

# The classes, in the order in which they are told.
CLASS_NO_NUMBER = 0
CLASS_INFINITE = 1
CLASS_ZERO = 2
CLASS_BELOW_ZERO = 3
CLASS_TINY = 4
CLASS_WHOLE = 5
CLASS_ODD = 6
CLASSES = 7


def is_comparison(op):
    return ALIKE <= op <= UNORDERED


def is_no_number_of_any(kind, bits):
    return is_broken(kind) and is_no_number(kind, bits)


def is_infinite_of_any(kind, bits):
    return is_broken(kind) and is_infinite(kind, bits)


def finest_size(kind, bits):
    """How many times 2 to the finest power a finite number is."""
    if is_broken(kind):
        return signed_size(finite_of_bits(kind, bits), FINEST_POWER)
    return whole_of_bits(kind, bits) << -FINEST_POWER


def worth_of(kind, bits):
    """A pair by which numbers of all kinds are in order, +0 and -0 alike: the infinities stand on either side."""
    if is_infinite_of_any(kind, bits):
        return (-1, 0) if sign_of(kind, bits) == 1 else (1, 0)
    return (0, finest_size(kind, bits))


def holds(op, kind_a, a, kind_b, b):
    if is_no_number_of_any(kind_a, a) or is_no_number_of_any(kind_b, b):
        return op == UNORDERED
    if op == UNORDERED:
        return False
    worth_a = worth_of(kind_a, a)
    worth_b = worth_of(kind_b, b)
    if op == ALIKE:
        return worth_a == worth_b
    return worth_a < worth_b if op == BELOW else worth_a <= worth_b


def class_counts(kind, numbers):
    """How many of the numbers, none of which is missing, are of each class; one may be of several."""
    counts = [0] * CLASSES
    for bits in numbers:
        for place in classes_of(kind, bits):
            counts[place] += 1
    return counts


def classes_of(kind, bits):
    if is_no_number_of_any(kind, bits):
        return [CLASS_NO_NUMBER]
    if is_infinite_of_any(kind, bits):
        return [CLASS_INFINITE]
    size = finest_size(kind, bits)
    found = classes_by_divisor(size)
    if size == 0:
        found.append(CLASS_ZERO)
    if size < 0:
        found.append(CLASS_BELOW_ZERO)
    if is_broken(kind) and is_tiny(kind, bits):
        found.append(CLASS_TINY)
    return found


def classes_by_divisor(size):
    one = 1 << -FINEST_POWER
    if size % one != 0:
        return []
    return [CLASS_WHOLE] if size % (2 * one) == 0 else [CLASS_WHOLE, CLASS_ODD]
