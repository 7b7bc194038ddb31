"""Points 7 and 8."""

import unittest

import oracle
from support import (
    BITS, BROKEN_KINDS, HIDDEN, INFINITY, MINUS, PLAIN, WHOLE_KINDS, begin, bits, cast, do, edges, get, made, more,
    put, run, scattered,
)

SUM, LESS, PRODUCT, LESSER, GREATER, QUOTIENT = range(6)


class DoCase(unittest.TestCase):
    def check(self, kind, op, a, b, wanted):
        found = made([(kind, [a]), (kind, [b])], do(op, 0, 1, 2), 2, kind)
        self.assertEqual(found, ([0], [wanted]), (kind, op, a, b))


class DoWhole(DoCase):
    def test_by_value(self):
        for kind in WHOLE_KINDS:
            for op, wanted in [(SUM, 10), (LESS, 4), (PRODUCT, 21), (LESSER, 3), (GREATER, 7)]:
                self.check(kind, op, 7, 3, wanted)
            self.check(kind, LESSER, 3, 7, 3)
            self.check(kind, GREATER, 3, 7, 7)

    def test_modulo_2_to_the_power_of_the_bits(self):
        for kind in WHOLE_KINDS:
            all_ones = (1 << BITS[kind]) - 1
            top = 1 << (BITS[kind] - 1)
            self.check(kind, SUM, all_ones, 1, 0)
            self.check(kind, SUM, top, top, 0)
            self.check(kind, SUM, top - 1, 1, top)
            self.check(kind, LESS, 0, 1, all_ones)
            self.check(kind, LESS, top, 1, top - 1)
            self.check(kind, PRODUCT, all_ones, all_ones, 1)
            self.check(kind, PRODUCT, top, 3, top)
            self.check(kind, PRODUCT, top, top, 0)

    def test_lesser_and_greater_look_at_the_sign(self):
        for kind in WHOLE_KINDS:
            all_ones = (1 << BITS[kind]) - 1
            low, high = (all_ones, 1) if kind % 2 == 0 else (1, all_ones)
            for a, b in ((1, all_ones), (all_ones, 1)):
                self.check(kind, LESSER, a, b, low)
                self.check(kind, GREATER, a, b, high)

    def test_as_the_oracle_has_it(self):
        for kind in WHOLE_KINDS:
            a, b = scattered(kind, 200, 100 + kind), scattered(kind, 200, 110 + kind)
            for op in range(5):
                wanted = [oracle.do_whole(kind, op, x, y) for x, y in zip(a, b)]
                self.assertEqual(made([(kind, a), (kind, b)], do(op, 0, 1, 2), 2, kind), ([0], wanted))


class DoBroken(DoCase):
    def check_values(self, op, expected):
        for kind in BROKEN_KINDS:
            for a, b, wanted in expected:
                pattern = PLAIN[kind] if wanted is None else bits(kind, wanted)
                self.check(kind, op, bits(kind, a), bits(kind, b), pattern)

    def test_ordinary_numbers(self):
        self.check_values(SUM, [(1.5, 2.25, 3.75), (1.0, -3.0, -2.0)])
        self.check_values(LESS, [(1.5, 2.25, -0.75), (1.0, -3.0, 4.0)])
        self.check_values(PRODUCT, [(1.5, 2.5, 3.75), (-1.5, 2.0, -3.0), (-2.0, -4.0, 8.0)])
        self.check_values(LESSER, [(1.5, 2.5, 1.5), (2.5, 1.5, 1.5), (-1.0, 1.0, -1.0), (-1.0, -2.0, -2.0)])
        self.check_values(GREATER, [(1.5, 2.5, 2.5), (2.5, 1.5, 2.5), (-1.0, 1.0, 1.0), (-1.0, -2.0, -1.0)])
        self.check_values(QUOTIENT, [(3.0, 2.0, 1.5), (-1.0, 4.0, -0.25), (-6.0, -3.0, 2.0)])

    def test_signs_of_0(self):
        zeros = [(0.0, 0.0), (0.0, -0.0), (-0.0, 0.0), (-0.0, -0.0)]
        for op, wanted in [(SUM, (0.0, 0.0, 0.0, -0.0)), (LESS, (0.0, 0.0, -0.0, 0.0)),
                           (PRODUCT, (0.0, -0.0, -0.0, 0.0)), (LESSER, (0.0, -0.0, -0.0, -0.0)),
                           (GREATER, (0.0, 0.0, 0.0, -0.0)), (QUOTIENT, (None, None, None, None))]:
            self.check_values(op, [(a, b, w) for (a, b), w in zip(zeros, wanted)])
        self.check_values(SUM, [(3.0, -3.0, 0.0), (-3.0, 3.0, 0.0), (-0.0, 2.0, 2.0)])
        self.check_values(LESS, [(3.0, 3.0, 0.0), (-3.0, -3.0, 0.0)])
        self.check_values(PRODUCT, [(0.0, -3.0, -0.0), (-0.0, -3.0, 0.0)])
        self.check_values(QUOTIENT, [(0.0, -3.0, -0.0), (-0.0, -3.0, 0.0)])

    def test_infinity(self):
        inf = float("inf")
        self.check_values(SUM, [(inf, inf, inf), (inf, -inf, None), (-inf, 1.0, -inf), (1.0, inf, inf)])
        self.check_values(LESS, [(inf, inf, None), (inf, -inf, inf), (1.0, inf, -inf), (-inf, 1.0, -inf)])
        self.check_values(PRODUCT, [(inf, -2.0, -inf), (0.0, inf, None), (-inf, -0.0, None), (-inf, -inf, inf)])
        self.check_values(LESSER, [(inf, 1.0, 1.0), (-inf, 1.0, -inf), (inf, inf, inf)])
        self.check_values(GREATER, [(inf, 1.0, inf), (-inf, 1.0, 1.0), (-inf, -inf, -inf)])
        self.check_values(QUOTIENT, [
            (inf, inf, None), (inf, -2.0, -inf), (3.0, -inf, -0.0), (-3.0, -inf, 0.0), (0.0, inf, 0.0),
            (1.0, 0.0, inf), (1.0, -0.0, -inf), (-1.0, 0.0, -inf), (inf, 0.0, inf), (inf, -0.0, -inf)])

    def test_what_is_no_number(self):
        for kind in BROKEN_KINDS:
            for odd in (INFINITY[kind] + 1, PLAIN[kind], 2 * MINUS[kind] - 1):
                for other in (0, MINUS[kind], bits(kind, 1.0), INFINITY[kind], odd):
                    for op in range(6):
                        self.check(kind, op, odd, other, PLAIN[kind])
                        self.check(kind, op, other, odd, PLAIN[kind])

    def test_halves_between_two_as_near(self):
        for kind in BROKEN_KINDS:
            one = bits(kind, 1.0)
            half_step = bits(kind, 2.0 ** -(HIDDEN[kind] + 1))
            self.check(kind, SUM, one, half_step, one)
            self.check(kind, SUM, one, half_step + 1, one + 1)
            self.check(kind, SUM, one + 1, half_step, one + 2)
            self.check(kind, LESS, one + 1, half_step, one)
            self.check(kind, PRODUCT, one + 1, bits(kind, 1.5), bits(kind, 1.5) + 2)
            self.check(kind, PRODUCT, one + 3, bits(kind, 1.5), bits(kind, 1.5) + 4)

    def test_beyond_the_greatest_and_near_0(self):
        for kind in BROKEN_KINDS:
            top, half, two = INFINITY[kind] - 1, bits(kind, 0.5), bits(kind, 2.0)
            self.check(kind, SUM, top, top, INFINITY[kind])
            self.check(kind, LESS, top + MINUS[kind], top, INFINITY[kind] + MINUS[kind])
            self.check(kind, PRODUCT, top, two, INFINITY[kind])
            self.check(kind, QUOTIENT, top, half, INFINITY[kind])
            self.check(kind, SUM, top, 1, top)
            for size, wanted in [(1, 0), (2, 1), (3, 2), (5, 2), (7, 4)]:
                self.check(kind, PRODUCT, size, half, wanted)
                self.check(kind, QUOTIENT, size + MINUS[kind], two, wanted + MINUS[kind])
            self.check(kind, PRODUCT, 1, 1 + MINUS[kind], MINUS[kind])
            self.check(kind, SUM, 1, 2, 3)

    def test_a_quotient_that_goes_on(self):
        self.check(6, QUOTIENT, bits(6, 1.0), bits(6, 3.0), 0x3555)
        self.check(7, QUOTIENT, bits(7, 1.0), bits(7, 3.0), 0x3EAAAAAB)
        self.check(8, QUOTIENT, bits(8, 1.0), bits(8, 3.0), 0x3FD5555555555555)
        self.check(8, QUOTIENT, bits(8, 2.0), bits(8, 3.0), 0x3FE5555555555555)

    def test_edges_as_the_oracle_has_it(self):
        for kind in BROKEN_KINDS:
            values = edges(kind)
            for op in range(6):
                for b in values:
                    wanted = [oracle.do_broken(kind, op, a, b) for a in values]
                    found = made([(kind, values), (kind, [b] * len(values))], do(op, 0, 1, 2), 2, kind)
                    self.assertEqual(found, ([0], wanted), (kind, op, b))

    def test_scattered_as_the_oracle_has_it(self):
        for kind in BROKEN_KINDS:
            a, b = scattered(kind, 300, 120 + kind), scattered(kind, 300, 130 + kind)
            for op in range(6):
                wanted = [oracle.do_broken(kind, op, x, y) for x, y in zip(a, b)]
                self.assertEqual(made([(kind, a), (kind, b)], do(op, 0, 1, 2), 2, kind), ([0], wanted), (kind, op))


class DoColumns(unittest.TestCase):
    def test_columns_taken_and_made_at_once(self):
        columns = [(0, [7, 65535]), (0, [3, 1])]
        self.assertEqual(made(columns, do(LESS, 0, 1, 0), 0, 0), ([0], [4, 65534]))
        self.assertEqual(made(columns, do(LESS, 0, 1, 1), 1, 0), ([0], [4, 65534]))
        self.assertEqual(made(columns, do(LESS, 1, 0, 1), 1, 0), ([0], [65532, 2]))
        self.assertEqual(made(columns, do(SUM, 0, 0, 0), 0, 0), ([0], [14, 65534]))

    def test_missing_in_either_is_missing(self):
        for kind in range(9):
            for op in range(6 if kind >= 6 else 5):
                found = run(begin(4), put(0, 5, [1 << 63, 3, 1 << 63, 3]), cast(0, 0, 4, 0), cast(0, 0, kind, 0),
                            put(1, 5, [3, 1 << 63, 1 << 63, 3]), cast(1, 1, 4, 0), cast(1, 1, kind, 0),
                            do(op, 0, 1, 2), get(2, kind, 4))
                last = found[8]
                self.assertEqual(found[7], [0])
                self.assertEqual([last[0]] + last[1:4] + last[5:], [1, 0, 0, 0, 8], (kind, op))


class More(unittest.TestCase):
    def check(self, kind, a, b, c, wanted):
        found = made([(kind, [a]), (kind, [b]), (kind, [c])], more(0, 1, 2, 3), 3, kind)
        self.assertEqual(found, ([0], [wanted]), (kind, a, b, c))

    def check_values(self, expected):
        for kind in BROKEN_KINDS:
            for a, b, c, wanted in expected:
                pattern = PLAIN[kind] if wanted is None else bits(kind, wanted)
                self.check(kind, bits(kind, a), bits(kind, b), bits(kind, c), pattern)

    def test_ordinary_numbers(self):
        self.check_values([(1.5, 2.0, 0.25, 3.25), (-1.5, 2.0, 0.25, -2.75), (2.0, 3.0, -7.0, -1.0)])

    def test_signs_of_0(self):
        self.check_values([
            (0.0, 0.0, 0.0, 0.0), (0.0, 0.0, -0.0, 0.0), (-0.0, 0.0, 0.0, 0.0), (-0.0, 0.0, -0.0, -0.0),
            (-0.0, -0.0, -0.0, 0.0), (0.0, -3.0, -0.0, -0.0), (2.0, 3.0, -6.0, 0.0), (-2.0, 3.0, 6.0, 0.0),
            (0.0, -3.0, 5.0, 5.0)])

    def test_infinity(self):
        inf = float("inf")
        self.check_values([
            (inf, 2.0, 1.0, inf), (inf, -2.0, 1.0, -inf), (inf, 2.0, -inf, None), (inf, 2.0, inf, inf),
            (inf, 0.0, 1.0, None), (0.0, -inf, 1.0, None), (0.0, inf, inf, None), (1.0, 1.0, -inf, -inf),
            (0.0, 0.0, inf, inf)])

    def test_a_product_beyond_the_greatest_is_not_infinite_on_the_way(self):
        for kind in BROKEN_KINDS:
            top = INFINITY[kind] - 1
            self.check(kind, top, top, INFINITY[kind] + MINUS[kind], INFINITY[kind] + MINUS[kind])
            self.check(kind, top, bits(kind, 2.0), top + MINUS[kind], top)
            self.check(kind, top, top, top, INFINITY[kind])

    def test_what_is_no_number(self):
        for kind in BROKEN_KINDS:
            one, inf = bits(kind, 1.0), INFINITY[kind]
            for odd in (INFINITY[kind] + 1, 2 * MINUS[kind] - 1):
                for a, b, c in [(odd, one, one), (one, odd, one), (one, one, odd), (odd, inf, 0), (inf, 0, odd)]:
                    self.check(kind, a, b, c, PLAIN[kind])

    def test_is_rounded_once(self):
        for kind in BROKEN_KINDS:
            one = bits(kind, 1.0)
            # (1 + u)(1 - u) - 1 is -u^2, which would be 0 if the product were rounded first.
            step = {6: 2.0 ** -10, 7: 2.0 ** -23, 8: 2.0 ** -52}[kind]
            product = bits(kind, 1.0 + step), bits(kind, 1.0 - step)
            self.check(kind, product[0], product[1], one + MINUS[kind], bits(kind, -step * step))

    def test_what_rounds_to_0_keeps_its_sign(self):
        for kind in BROKEN_KINDS:
            self.check(kind, 1, 1 + MINUS[kind], 0, MINUS[kind])
            self.check(kind, 1, 1, MINUS[kind], 0)
            self.check(kind, 1, 1 + MINUS[kind], 1, 1)

    def test_as_the_oracle_has_it(self):
        for kind in BROKEN_KINDS:
            values = edges(kind)[::3] + edges(kind)[1::5]
            for a in values[::2]:
                for b in values:
                    wanted = [oracle.more(kind, a, b, c) for c in values]
                    rows = len(values)
                    found = made([(kind, [a] * rows), (kind, [b] * rows), (kind, values)], more(0, 1, 2, 3), 3, kind)
                    self.assertEqual(found, ([0], wanted), (kind, a, b))
            columns = [(kind, scattered(kind, 300, seed + kind)) for seed in (140, 150, 160)]
            wanted = [oracle.more(kind, a, b, c) for a, b, c in zip(*[column[1] for column in columns])]
            self.assertEqual(made(columns, more(0, 1, 2, 3), 3, kind), ([0], wanted))

    def test_columns_taken_and_made_at_once(self):
        for kind in BROKEN_KINDS:
            columns = [(kind, [bits(kind, v)]) for v in (2.0, 3.0, 5.0)]
            for to in (0, 1, 2):
                self.assertEqual(made(columns, more(0, 1, 2, to), to, kind), ([0], [bits(kind, 11.0)]))
            self.assertEqual(made(columns, more(1, 1, 1, 1), 1, kind), ([0], [bits(kind, 12.0)]))

    def test_missing_in_any_is_missing(self):
        for kind in BROKEN_KINDS:
            columns = ([70000, 1, 1, 1], [1, 70000, 1, 1], [1, 1, 70000, 1])
            made_missing = []
            for c, values in enumerate(columns):
                made_missing += [put(c, 3, values), cast(c, c, 1, 0), cast(c, c, kind, 0)]
            found = run(begin(4), *made_missing, more(0, 1, 2, 3), get(3, kind, 4))
            self.assertEqual(found[10:], [[0], [1, 0, 0, 0, bits(kind, 2.0), 8]])


if __name__ == "__main__":
    unittest.main()
