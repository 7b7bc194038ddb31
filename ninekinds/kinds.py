"""Which kinds there are, and the numbers that the whole kinds have."""

# By kind, of the whole ones alone.
BITS = (16, 16, 32, 32, 64, 64)
FIRST_BROKEN = 6
LAST_KIND = 8


def is_kind(kind):
    return 0 <= kind <= LAST_KIND


def is_broken(kind):
    return kind >= FIRST_BROKEN


def has_sign(kind):
    """Asked of whole kinds alone: there the even ones have a sign."""
    return kind % 2 == 0


def least_whole(kind):
    if has_sign(kind):
        return -(1 << (BITS[kind] - 1))
    return 0


def greatest_whole(kind):
    if has_sign(kind):
        return (1 << (BITS[kind] - 1)) - 1
    return (1 << BITS[kind]) - 1


def has_whole(kind, whole):
    return least_whole(kind) <= whole <= greatest_whole(kind)


def whole_of_bits(kind, bits):
    if bits > greatest_whole(kind):
        return bits - (1 << BITS[kind])
    return bits


def bits_of_whole(kind, whole):
    """Modulo 2 to the power of the bits, so that what is too great for the kind comes round."""
    return whole % (1 << BITS[kind])
