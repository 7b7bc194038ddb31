"""Points 10, 11 and 12."""

import unittest

import oracle
from support import (
    BITS, BROKEN_KINDS, HIDDEN, INFINITY, MINUS, PLAIN, WHOLE_KINDS, all_edges, begin, bits, blank, cast, classes,
    dump, ends, put, run, scattered, total,
)

TOP_64 = (1 << 64) - 1


def asked(call, kind, values, missing=()):
    """What the call answers of column 0 with these numbers, of which those in these rows are missing."""
    rows = len(values)
    mask = [0] * ((rows + 7) // 8)
    for row in missing:
        mask[row // 8] |= 1 << row % 8
    return run(begin(rows), put(0, kind, values), blank(0, rows, mask), call)[-1]


class LookCase(unittest.TestCase):
    def changes_nothing(self, call):
        setup = [begin(3), put(0, 8, [PLAIN[8] + 1, 5, 6]), put(1, 0, [1, 2, 65535]), blank(0, 3, [4])]
        before = run(*setup, *dump(3))[4:]
        self.assertEqual(run(*setup, call(0), call(1), *dump(3))[6:], before)

    def as_the_oracle_has_it(self, call, wanted):
        for kind in range(9):
            for values in (all_edges(kind), scattered(kind, 100, 120 + kind), [v for v in scattered(kind, 50, kind)
                                                                              if kind < 6 or v < INFINITY[kind]]):
                for missing in ((), (0, 3, 7, 8, 9), range(len(values)), range(1, len(values))):
                    numbers = [None if i in missing else v for i, v in enumerate(values)]
                    self.assertEqual(asked(call(0), kind, values, missing), wanted(kind, numbers), (kind, missing))


class Classes(LookCase):
    def check(self, kind, values, wanted, missing=()):
        self.assertEqual(asked(classes(0), kind, values, missing), wanted, (kind, values))

    def test_each_class_of_whole_kinds(self):
        for kind in WHOLE_KINDS:
            self.check(kind, [0], [1, 0, 0, 0, 1, 0, 0, 1, 0])
            self.check(kind, [2], [1, 0, 0, 0, 0, 0, 0, 1, 0])
            self.check(kind, [7], [1, 0, 0, 0, 0, 0, 0, 1, 1])
            top = (1 << BITS[kind]) - 1
            below = 1 if kind % 2 == 0 else 0
            self.check(kind, [top], [1, 0, 0, 0, 0, below, 0, 1, 1])
            self.check(kind, [top - 1], [1, 0, 0, 0, 0, below, 0, 1, 0])
            self.check(kind, [top // 2 + 1], [1, 0, 0, 0, 0, below, 0, 1, 0])
            self.check(kind, [0, 7, 2, 0], [2, 2, 0, 0, 1, 0, 0, 2, 1], (0, 2))

    def test_each_class_of_broken_kinds(self):
        for kind in BROKEN_KINDS:
            for size, plus in [(0, [0, 0, 1, 0, 0, 1, 0]), (1, [0, 0, 0, 0, 1, 0, 0]),
                               ((1 << HIDDEN[kind]) - 1, [0, 0, 0, 0, 1, 0, 0]),
                               (1 << HIDDEN[kind], [0, 0, 0, 0, 0, 0, 0]), (bits(kind, 0.5), [0, 0, 0, 0, 0, 0, 0]),
                               (bits(kind, 1.0), [0, 0, 0, 0, 0, 1, 1]), (bits(kind, 1.5), [0, 0, 0, 0, 0, 0, 0]),
                               (bits(kind, 2.0), [0, 0, 0, 0, 0, 1, 0]), (bits(kind, 3.0), [0, 0, 0, 0, 0, 1, 1]),
                               (bits(kind, 2.5), [0, 0, 0, 0, 0, 0, 0]), (INFINITY[kind] - 1, [0, 0, 0, 0, 0, 1, 0]),
                               (INFINITY[kind], [0, 1, 0, 0, 0, 0, 0]), (INFINITY[kind] + 1, [1, 0, 0, 0, 0, 0, 0]),
                               (PLAIN[kind], [1, 0, 0, 0, 0, 0, 0]), (MINUS[kind] - 1, [1, 0, 0, 0, 0, 0, 0])]:
                self.check(kind, [size], [1, 0] + plus)
                minus = list(plus)
                minus[3] = 1 if 0 < size < INFINITY[kind] else 0
                self.check(kind, [size + MINUS[kind]], [1, 0] + minus)

    def test_the_greatest_odd_ones(self):
        for kind in BROKEN_KINDS:
            odd = (1 << (HIDDEN[kind] + 1)) - 1
            self.check(kind, [bits(kind, float(odd)), bits(kind, float(-odd)), bits(kind, float(odd + 1))],
                       [3, 0, 0, 0, 0, 1, 0, 3, 2])
        self.check(5, [TOP_64, 1 << 63], [2, 0, 0, 0, 0, 0, 0, 2, 1])

    def test_missing_ones_are_of_no_other_class(self):
        for kind in BROKEN_KINDS:
            values = [PLAIN[kind], INFINITY[kind], 0, MINUS[kind] + 1, bits(kind, 1.0), bits(kind, -3.0)]
            self.check(kind, values, [6, 0, 1, 1, 1, 2, 1, 3, 2])
            self.check(kind, values, [0, 6, 0, 0, 0, 0, 0, 0, 0], range(6))
            self.check(kind, values, [1, 5, 0, 0, 0, 1, 1, 0, 0], (0, 1, 2, 4, 5))

    def test_missing_ones_by_a_cast(self):
        found = run(begin(3), put(0, 1, [65535, 7, 0]), cast(0, 1, 0, 0), classes(1))
        self.assertEqual(found[-1], [2, 1, 0, 0, 1, 0, 0, 2, 1])

    def test_as_the_oracle_has_it(self):
        self.as_the_oracle_has_it(classes, oracle.classes)

    def test_changes_nothing(self):
        self.changes_nothing(classes)


class SumOfWhole(LookCase):
    def check(self, kind, values, whole):
        self.assertEqual(asked(total(0), kind, values), [len(values), whole & TOP_64, (whole >> 64) & TOP_64])

    def test_by_128_bits_the_lowest_first(self):
        for kind in WHOLE_KINDS:
            self.check(kind, [1, 2, 3], 6)
            self.check(kind, [0], 0)
            top = (1 << (BITS[kind] - 1)) - 1
            self.check(kind, [top] * 2048, 2048 * top)
        self.assertEqual(asked(total(0), 5, [TOP_64, 1]), [2, 0, 1])
        self.assertEqual(asked(total(0), 5, [TOP_64] * 2048), [2048, TOP_64 - 2047, 2047])

    def test_below_0(self):
        for kind in (0, 2, 4):
            self.assertEqual(asked(total(0), kind, [bits(kind, -1)]), [1, TOP_64, TOP_64])
            self.assertEqual(asked(total(0), kind, [bits(kind, v) for v in (-5, 3)]), [2, TOP_64 - 1, TOP_64])
            self.assertEqual(asked(total(0), kind, [bits(kind, v) for v in (-5, 5)]), [2, 0, 0])
            least = 1 << (BITS[kind] - 1)
            self.check(kind, [least] * 2048, -2048 * least)
        self.assertEqual(asked(total(0), 4, [1 << 63] * 2), [2, 0, TOP_64])
        self.assertEqual(asked(total(0), 4, [1 << 63] * 4), [4, 0, TOP_64 - 1])

    def test_what_has_no_sign_is_not_below_0(self):
        for kind in (1, 3, 5):
            top = (1 << BITS[kind]) - 1
            self.check(kind, [top], top)
            self.check(kind, [top, top], 2 * top)

    def test_missing_ones_are_left_out(self):
        for kind in WHOLE_KINDS:
            self.assertEqual(asked(total(0), kind, [1, 20, 300, 4000], (1, 3)), [2, 301, 0])
            self.assertEqual(asked(total(0), kind, [1, 2], (0, 1)), [0, 0, 0])


class SumOfBroken(LookCase):
    def check(self, kind, values, wanted, missing=()):
        values = [bits(kind, v) for v in values]
        self.assertEqual(asked(total(0), kind, values, missing),
                         [len(values) - len(missing), bits(8, wanted), 0], (kind, values))

    def test_is_told_as_a_double(self):
        for kind in BROKEN_KINDS:
            self.check(kind, [1.5, 2.25, -0.5], 3.25)
            self.check(kind, [-1.5], -1.5)
            self.check(kind, [2.0 ** -24, 1024.0], 1024.0 + 2.0 ** -24)
        self.check(6, [65504.0] * 2048, 65504.0 * 2048)
        self.check(7, [2.0 ** 127] * 2048, 2.0 ** 138)
        self.check(7, [2.0 ** -149] * 3, 3 * 2.0 ** -149)
        self.check(6, [2.0 ** -24] * 5, 5 * 2.0 ** -24)

    def test_numbers_far_apart(self):
        self.check(8, [1e308, 1.0, -1e308], 1.0)
        self.check(8, [1.0, 1e300, 5e-324, -1e300, -1.0], 5e-324)
        self.check(8, [1e16, 1.0, 1.0, -1e16], 2.0)
        self.check(8, [0.1] * 10, 1.0)
        self.check(7, [2.0 ** 127, 2.0 ** -149, -2.0 ** 127], 2.0 ** -149)
        self.check(6, [65504.0, 2.0 ** -24, -65504.0], 2.0 ** -24)

    def test_at_the_half_between_two_doubles(self):
        big = 2.0 ** 53
        for sign in (1, -1):
            self.check(8, [sign * big, sign * 1.0], sign * big)
            self.check(8, [sign * (big + 2), sign * 1.0], sign * (big + 4))
            self.check(8, [sign * big, sign * 1.0, sign * 5e-324], sign * (big + 2))
            self.check(8, [sign * (big + 2), sign * 1.0, sign * -5e-324], sign * (big + 2))
            self.check(8, [sign * big, sign * 0.5, sign * 0.5], sign * big)
            self.check(8, [sign * big, sign * 0.75, sign * 0.5], sign * (big + 2))
            self.check(7, [sign * 2.0 ** 100, sign * 2.0 ** 47], sign * 2.0 ** 100)
            self.check(7, [sign * 2.0 ** 100, sign * 2.0 ** 47, sign * 2.0 ** -149], sign * (2.0 ** 100 + 2.0 ** 48))

    def test_beyond_the_greatest_only_at_the_end(self):
        top = INFINITY[8] - 1
        down = top + MINUS[8]
        half = bits(8, 2.0 ** 970)
        for values, wanted in [([top, top, down], top), ([top, half], INFINITY[8]), ([top, half - 1], top),
                               ([down, half + MINUS[8]], INFINITY[8] + MINUS[8]), ([top, top], INFINITY[8]),
                               ([down, top, top, down, 7], 7), ([top, half, MINUS[8] + 1], top)]:
            self.assertEqual(asked(total(0), 8, values), [len(values), wanted, 0])

    def test_plus_0_if_it_is_0(self):
        for kind in BROKEN_KINDS:
            for values in ([0], [MINUS[kind]], [MINUS[kind]] * 3, [5, 5 + MINUS[kind]],
                           [INFINITY[kind] - 1, MINUS[kind], INFINITY[kind] - 1 + MINUS[kind]]):
                self.assertEqual(asked(total(0), kind, values), [len(values), 0, 0])

    def test_infinities(self):
        for kind in BROKEN_KINDS:
            up, down, one = INFINITY[kind], INFINITY[kind] + MINUS[kind], bits(kind, 1.0)
            for values, wanted in [([up, one], INFINITY[8]), ([one, up, up], INFINITY[8]),
                                   ([down, one], INFINITY[8] + MINUS[8]), ([down, one, down], INFINITY[8] + MINUS[8]),
                                   ([up, INFINITY[kind] - 1 + MINUS[kind]], INFINITY[8]), ([up, down], PLAIN[8]),
                                   ([down, one, up], PLAIN[8])]:
                self.assertEqual(asked(total(0), kind, values), [len(values), wanted, 0])
            self.assertEqual(asked(total(0), kind, [up, down, one], (0,)), [2, INFINITY[8] + MINUS[8], 0])
            self.assertEqual(asked(total(0), kind, [up, down, one], (0, 1)), [1, bits(8, 1.0), 0])

    def test_what_is_no_number(self):
        for kind in BROKEN_KINDS:
            up, down = INFINITY[kind], INFINITY[kind] + MINUS[kind]
            for none in (PLAIN[kind], INFINITY[kind] + 1, 2 * MINUS[kind] - 1):
                for others in ([], [0], [bits(kind, 1.0)], [up], [up, down]):
                    self.assertEqual(asked(total(0), kind, others + [none]), [len(others) + 1, PLAIN[8], 0])
                    self.assertEqual(asked(total(0), kind, [none] + others), [len(others) + 1, PLAIN[8], 0])
                self.assertEqual(asked(total(0), kind, [none, bits(kind, 2.0)], (0,)), [1, bits(8, 2.0), 0])

    def test_missing_ones_are_left_out(self):
        for kind in BROKEN_KINDS:
            self.check(kind, [1.0, 2.0, 4.0, 8.0], 5.0, (1, 3))
            self.check(kind, [1.0, 2.0], 0.0, (0, 1))

    def test_as_the_oracle_has_it(self):
        self.as_the_oracle_has_it(total, oracle.summed)

    def test_many_finite_ones_as_the_oracle_has_it(self):
        for kind in BROKEN_KINDS:
            for seed in range(20):
                values = [v for v in scattered(kind, 200, 200 + seed) if v % MINUS[kind] < INFINITY[kind]]
                self.assertEqual(asked(total(0), kind, values), oracle.summed(kind, values))
                near = values[1::2]
                self.assertEqual(asked(total(0), kind, near), oracle.summed(kind, near))

    def test_changes_nothing(self):
        self.changes_nothing(total)


class Ends(LookCase):
    def check(self, kind, values, least, greatest, missing=()):
        self.assertEqual(asked(ends(0), kind, values, missing), [len(values) - len(missing), least, greatest],
                         (kind, values))

    def test_of_whole_kinds(self):
        for kind in WHOLE_KINDS:
            self.check(kind, [5, 3, 9, 4], 3, 9)
            self.check(kind, [5], 5, 5)
            self.check(kind, [9, 3], 3, 9)

    def test_the_sign_is_drawn_on(self):
        for kind in (0, 2, 4):
            least = 1 << (BITS[kind] - 1)
            self.check(kind, [bits(kind, v) for v in (3, -1, -7)], TOP_64 - 6, 3)
            self.check(kind, [bits(kind, v) for v in (-2, -1, -7)], TOP_64 - 6, TOP_64)
            self.check(kind, [0, least, least - 1], (1 << 64) - least, least - 1)

    def test_no_sign_is_drawn_on_what_has_none(self):
        for kind in (1, 3, 5):
            top = (1 << BITS[kind]) - 1
            self.check(kind, [top, 3, top // 2 + 1], 3, top)
            self.check(kind, [top], top, top)

    def test_of_broken_kinds_by_their_bits(self):
        for kind in BROKEN_KINDS:
            minus_two, half, three = bits(kind, -2.0), bits(kind, 0.5), bits(kind, 3.0)
            self.check(kind, [half, minus_two, three], minus_two, three)
            self.check(kind, [minus_two, bits(kind, -3.0)], bits(kind, -3.0), minus_two)
            self.check(kind, [three], three, three)
            self.check(kind, [1, three, 2], 1, three)

    def test_minus_0_is_below_plus_0(self):
        for kind in BROKEN_KINDS:
            minus_0 = MINUS[kind]
            for values in ([0, minus_0], [minus_0, 0], [0, minus_0, 0, minus_0]):
                self.check(kind, values, minus_0, 0)
            self.check(kind, [0, 0], 0, 0)
            self.check(kind, [minus_0, minus_0], minus_0, minus_0)
            self.check(kind, [minus_0, MINUS[kind] + 1], MINUS[kind] + 1, minus_0)
            self.check(kind, [0, minus_0, 1], minus_0, 1)

    def test_infinities_are_looked_at(self):
        for kind in BROKEN_KINDS:
            up, down, top = INFINITY[kind], INFINITY[kind] + MINUS[kind], INFINITY[kind] - 1
            self.check(kind, [top, up, down, top + MINUS[kind]], down, up)
            self.check(kind, [up], up, up)
            self.check(kind, [up, top], top, up)

    def test_what_is_no_number_is_not(self):
        for kind in BROKEN_KINDS:
            one, two = bits(kind, 1.0), bits(kind, 2.0)
            values = [PLAIN[kind], two, 2 * MINUS[kind] - 1, one, INFINITY[kind] + 1]
            self.assertEqual(asked(ends(0), kind, values), [2, one, two])
            self.assertEqual(asked(ends(0), kind, values, (1,)), [1, one, one])

    def test_missing_ones_are_not(self):
        for kind in range(9):
            values = [bits(kind, v) for v in (7, 1, 9, 3)]
            self.check(kind, values, bits(kind, 3), bits(kind, 7), (1, 2))

    def test_none_left(self):
        for kind in range(9):
            self.assertEqual(asked(ends(0), kind, [1, 2, 3], (0, 1, 2)), [-5])
        for kind in BROKEN_KINDS:
            self.assertEqual(asked(ends(0), kind, [PLAIN[kind], 2 * MINUS[kind] - 1]), [-5])
            self.assertEqual(asked(ends(0), kind, [PLAIN[kind], 5], (1,)), [-5])

    def test_as_the_oracle_has_it(self):
        self.as_the_oracle_has_it(ends, oracle.ends)

    def test_changes_nothing(self):
        self.changes_nothing(ends)


if __name__ == "__main__":
    unittest.main()
