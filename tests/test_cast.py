"""Point 3, and what the document says of kinds and ways."""

import unittest

import oracle
from support import (
    BITS, BROKEN_KINDS, INFINITY, MINUS, PLAIN, WAYS, WHOLE_KINDS, begin, bits, cast, edges, get, made, put, read, run,
    scattered,
)


def ends(kind):
    """The least and the greatest of a whole kind, and their neighbours, by value."""
    least = -(1 << (BITS[kind] - 1)) if kind % 2 == 0 else 0
    greatest = least + (1 << BITS[kind]) - 1
    return least, greatest


class CastCase(unittest.TestCase):
    def cast_one(self, old, new, way, pattern):
        answer, numbers = made([(old, [pattern])], cast(0, 1, new, way), 1, new)
        self.assertEqual(answer, [1 if numbers[0] is None else 0])
        return numbers[0]

    def check(self, old, new, expected):
        """expected: value, then what it becomes by each of the four ways; None where it's missing."""
        for value, *wanted in expected:
            for way in WAYS:
                pattern = None if wanted[way] is None else bits(new, wanted[way])
                self.assertEqual(self.cast_one(old, new, way, bits(old, value)), pattern, (old, new, way, value))


class WholeToWhole(CastCase):
    def test_itself_if_the_kind_has_it_else_missing(self):
        for old in WHOLE_KINDS:
            values = sorted({v + d for k in WHOLE_KINDS for v in ends(k) for d in (-1, 0, 1)} | {5, -5})
            values = [v for v in values if ends(old)[0] <= v <= ends(old)[1]]
            for new in WHOLE_KINDS:
                has = [bits(new, v) if ends(new)[0] <= v <= ends(new)[1] else None for v in values]
                for way in WAYS:
                    column = (old, [bits(old, v) for v in values])
                    answer, numbers = made([column], cast(0, 1, new, way), 1, new)
                    self.assertEqual(numbers, has, (old, new))
                    self.assertEqual(answer, [has.count(None)])

    def test_by_hand(self):
        self.check(0, 1, [(-1, None, None, None, None), (7, 7, 7, 7, 7)])
        self.check(1, 0, [(32767, 32767, 32767, 32767, 32767), (32768, None, None, None, None)])
        self.check(0, 4, [(-32768, -32768, -32768, -32768, -32768)])


class WholeToBroken(CastCase):
    def test_halves_between_two_as_near_and_the_ways(self):
        self.check(2, 6, [
            (2049, 2048.0, 2048.0, 2050.0, 2048.0), (2051, 2052.0, 2050.0, 2052.0, 2050.0),
            (-2049, -2048.0, -2050.0, -2048.0, -2048.0), (-2051, -2052.0, -2052.0, -2050.0, -2050.0),
            (4097, 4096.0, 4096.0, 4100.0, 4096.0), (4099, 4100.0, 4096.0, 4100.0, 4096.0), (0, 0.0, 0.0, 0.0, 0.0)])
        self.check(4, 7, [(16777217, 16777216.0, 16777216.0, 16777218.0, 16777216.0)])
        self.check(5, 8, [(2 ** 64 - 1, 2.0 ** 64, 2.0 ** 64 - 2048, 2.0 ** 64, 2.0 ** 64 - 2048)])

    def test_beyond_the_greatest(self):
        top, inf = 65504.0, float("inf")
        self.check(2, 6, [
            (65504, top, top, top, top), (65519, top, top, inf, top), (65520, inf, top, inf, top),
            (65536, inf, top, inf, top), (-65536, -inf, -inf, -top, -top), (-65519, -top, -inf, -top, -top), (-65520, -inf, -inf, -top, -top), (2 ** 31 - 1, inf, top, inf, top),
            (-2 ** 31, -inf, -inf, -top, -top)])

    def test_0_has_no_minus(self):
        for old in WHOLE_KINDS:
            for new in BROKEN_KINDS:
                self.assertEqual([self.cast_one(old, new, way, 0) for way in WAYS], [0, 0, 0, 0])


class BrokenToWhole(CastCase):
    def test_the_ways(self):
        for old in BROKEN_KINDS:
            for new in (0, 2, 4):
                self.check(old, new, [
                    (0.5, 0, 0, 1, 0), (1.5, 2, 1, 2, 1), (2.5, 2, 2, 3, 2), (-0.5, 0, -1, 0, 0),
                    (-1.5, -2, -2, -1, -1), (-2.5, -2, -3, -2, -2), (2.75, 3, 2, 3, 2), (-2.75, -3, -3, -2, -2),
                    (2.25, 2, 2, 3, 2), (0.0, 0, 0, 0, 0), (-0.0, 0, 0, 0, 0), (6.0, 6, 6, 6, 6)])

    def test_missing_where_the_kind_has_it_not(self):
        self.check(8, 1, [(-0.5, 0, None, 0, 0), (-0.75, None, None, 0, 0), (-1.0, None, None, None, None),
                          (65535.5, None, 65535, None, 65535), (65536.0, None, None, None, None)])
        self.check(7, 0, [(32767.5, None, 32767, None, 32767), (-32768.5, -32768, None, -32768, -32768)])
        self.check(8, 4, [(2.0 ** 63, None, None, None, None), (-2.0 ** 63, -2 ** 63, -2 ** 63, -2 ** 63, -2 ** 63)])
        self.check(8, 5, [(2.0 ** 64, None, None, None, None)] + [(2.0 ** 63, *[2 ** 63] * 4)])

    def test_missing_of_infinity_and_what_is_no_number(self):
        for old in BROKEN_KINDS:
            for new in WHOLE_KINDS:
                odd = [INFINITY[old], INFINITY[old] + MINUS[old], PLAIN[old], INFINITY[old] + 1, 2 * MINUS[old] - 1]
                answer, numbers = made([(old, odd)], cast(0, 1, new, 3), 1, new)
                self.assertEqual((answer, numbers), ([5], [None] * 5))

    def test_the_least_numbers(self):
        for old in BROKEN_KINDS:
            self.assertEqual([self.cast_one(old, 0, way, 1) for way in WAYS], [0, 0, 1, 0])
            self.assertEqual([self.cast_one(old, 0, way, 1 + MINUS[old]) for way in WAYS], [0, 65535, 0, 0])


class BrokenToBroken(CastCase):
    def test_infinity_stays_and_what_is_no_number_is_the_plain_one(self):
        for old in BROKEN_KINDS:
            for new in BROKEN_KINDS:
                for way in WAYS:
                    odd = [INFINITY[old], INFINITY[old] + MINUS[old], PLAIN[old], INFINITY[old] + 1,
                           PLAIN[old] + MINUS[old], 2 * MINUS[old] - 1]
                    answer, numbers = made([(old, odd)], cast(0, 1, new, way), 1, new)
                    wanted = [INFINITY[new], INFINITY[new] + MINUS[new]] + [PLAIN[new]] * 4
                    self.assertEqual((answer, numbers), ([0], wanted))

    def test_beyond_the_greatest(self):
        top, inf = 65504.0, float("inf")
        self.check(8, 6, [(65519.99, top, top, inf, top), (65520.0, inf, top, inf, top), (1e300, inf, top, inf, top),
                          (-65520.0, -inf, -inf, -top, -top), (-65519.99, -top, -inf, -top, -top),
                          (65536.0, inf, top, inf, top), (-65536.0, -inf, -inf, -top, -top)])
        top = 2.0 ** 128 - 2.0 ** 104
        self.check(8, 7, [(2.0 ** 128, inf, top, inf, top), (-2.0 ** 128, -inf, -inf, -top, -top),
                          (2.0 ** 128 - 2.0 ** 103, inf, top, inf, top), (top + 2.0 ** 102, top, top, inf, top)])

    def test_near_0(self):
        least = 2.0 ** -24
        self.check(8, 6, [
            (least / 2, 0.0, 0.0, least, 0.0), (least * 1.5, 2 * least, least, 2 * least, least),
            (least * 0.51, least, 0.0, least, 0.0), (least * 2.5, 2 * least, 2 * least, 3 * least, 2 * least)])
        for value, wanted in [(-least / 2, [0x8000, 0x8001, 0x8000, 0x8000]), (-1e-300, [0x8000, 0x8001, 0x8000, 0x8000]),
                              (-0.0, [0x8000] * 4), (0.0, [0] * 4), (5e-324, [0, 0, 1, 0])]:
            self.assertEqual([self.cast_one(8, 6, way, bits(8, value)) for way in WAYS], wanted, value)

    def test_the_last_with_fewer_bits_and_the_first_with_all(self):
        self.assertEqual(self.cast_one(6, 8, 0, 0x03FF), bits(8, 1023 * 2.0 ** -24))
        self.assertEqual(self.cast_one(6, 8, 0, 0x0400), bits(8, 2.0 ** -14))
        between = bits(8, 1023.5 * 2.0 ** -24)
        self.assertEqual([self.cast_one(8, 6, way, between) for way in WAYS], [0x0400, 0x03FF, 0x0400, 0x03FF])

    def test_to_the_same_kind_numbers_stay(self):
        for kind in BROKEN_KINDS:
            values = [p for p in edges(kind) + scattered(kind, 200, 3) if not oracle.is_none(kind, p)]
            for way in WAYS:
                self.assertEqual(made([(kind, values)], cast(0, 0, kind, way), 0, kind), ([0], values))


class AllKinds(unittest.TestCase):
    def test_as_the_oracle_has_it(self):
        for old in range(9):
            values = scattered(old, 120, 20 + old)
            values += edges(old) if old >= 6 else [bits(old, v) for v in (0, 1, -1, 2049, 4099, *ends(old))]
            for new in range(9):
                for way in WAYS:
                    wanted = [oracle.cast(old, new, way, v) for v in values]
                    answer, numbers = made([(old, values)], cast(0, 1, new, way), 1, new)
                    self.assertEqual(numbers, wanted, (old, new, way))
                    self.assertEqual(answer, [wanted.count(None)])

    def test_every_half_there_and_back(self):
        for start in range(0, 65536, 2048):
            values = list(range(start, start + 2048))
            wanted = [PLAIN[6] if v % 32768 > INFINITY[6] else v for v in values]
            for through in (7, 8):
                found = run(begin(2048), put(0, 6, values), cast(0, 1, through, 1), cast(1, 2, 6, 2), get(2, 6, 2048))
                self.assertEqual(read(found[-1]), wanted)


class Missing(unittest.TestCase):
    def test_missing_stays_missing_and_is_counted(self):
        found = run(begin(3), put(0, 3, [70000, 1, 70001]), cast(0, 1, 1, 0), cast(1, 2, 8, 0), cast(2, 3, 6, 0),
                    cast(3, 4, 4, 0), get(4, 4, 3), get(0, 3, 3))
        self.assertEqual(found[2:], [[2], [2], [2], [2], [1, 0, 1, 0, 2], [3, 70000, 1, 70001, 7]])

    def test_a_column_taken_and_made_at_once(self):
        found = run(begin(2), put(0, 8, [bits(8, 2.5), bits(8, -1.0)]), cast(0, 0, 1, 2), get(0, 1, 2), get(0, 8, 2))
        self.assertEqual(found[2:], [[1], [1, 3, 0, 1], [-4]])

    def test_the_column_made_may_be_there_already(self):
        found = run(begin(1), put(0, 0, [7]), put(1, 8, [9]), cast(0, 1, 2, 0), get(1, 2, 1), get(0, 0, 1))
        self.assertEqual(found[3:], [[0], [1, 7, 1], [1, 7, 1]])


if __name__ == "__main__":
    unittest.main()
