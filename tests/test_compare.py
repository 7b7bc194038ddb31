"""Point 9."""

import unittest

import oracle
from support import (
    BROKEN_KINDS, INFINITY, MINUS, PLAIN, all_edges, begin, bits, blank, bytes_of, cast, compare, dump, put, run,
    scattered,
)

ALIKE, BELOW, NO_MORE, UNORDERED = range(4)
KINDS = range(9)
OPS = range(4)


class CompareCase(unittest.TestCase):
    def compared(self, kind_a, a, kind_b, b):
        """The answers of the four ops."""
        rows = len(a)
        found = run(begin(rows), put(3, kind_a, a), put(15, kind_b, b), *[compare(op, 3, 15, rows) for op in OPS])
        return found[3:]

    def check(self, kind_a, a, kind_b, b, held):
        """One row: held tells which of the ops hold."""
        wanted = [[1, 1] if op in held else [0, 0] for op in OPS]
        self.assertEqual(self.compared(kind_a, [a], kind_b, [b]), wanted, (kind_a, a, kind_b, b))

    def alike(self, kind_a, a, kind_b, b):
        self.check(kind_a, a, kind_b, b, (ALIKE, NO_MORE))
        self.check(kind_b, b, kind_a, a, (ALIKE, NO_MORE))

    def below(self, kind_a, a, kind_b, b):
        self.check(kind_a, a, kind_b, b, (BELOW, NO_MORE))
        self.check(kind_b, b, kind_a, a, ())


class ByWorth(CompareCase):
    def test_every_pair_of_kinds(self):
        for kind_a in KINDS:
            for kind_b in KINDS:
                a = [bits(kind_a, v) for v in (2, 3, 4, 0, 100)]
                b = [bits(kind_b, v) for v in (3, 3, 3, 0, 99)]
                self.assertEqual(self.compared(kind_a, a, kind_b, b),
                                 [[2, 0b01010], [1, 0b00001], [3, 0b01011], [0, 0]], (kind_a, kind_b))

    def test_below_0_beside_what_has_the_same_bits(self):
        for signed, unsigned, top in ((0, 1, 1 << 16), (2, 3, 1 << 32), (4, 5, 1 << 64)):
            self.below(signed, top - 1, unsigned, top - 1)
            self.below(signed, top - 1, unsigned, 0)
            self.below(signed, top // 2, unsigned, top // 2)
            self.alike(signed, top // 2 - 1, unsigned, top // 2 - 1)

    def test_below_0_of_every_pair_that_has_a_sign(self):
        signed = (0, 2, 4, 6, 7, 8)
        for kind_a in signed:
            for kind_b in signed:
                self.alike(kind_a, bits(kind_a, -5), kind_b, bits(kind_b, -5))
                self.below(kind_a, bits(kind_a, -5), kind_b, bits(kind_b, -4))
                self.below(kind_a, bits(kind_a, -1), kind_b, bits(kind_b, 1))

    def test_a_whole_one_of_64_bits_beside_a_double(self):
        big = bits(8, 2.0 ** 53)
        self.alike(4, 2 ** 53, 8, big)
        self.below(8, big, 4, 2 ** 53 + 1)
        self.below(8, big, 5, 2 ** 53 + 1)
        self.below(4, 2 ** 53 - 1, 8, big)
        self.below(4, 2 ** 63 - 1, 8, bits(8, 2.0 ** 63))
        self.alike(5, 2 ** 63, 8, bits(8, 2.0 ** 63))
        self.below(8, bits(8, 2.0 ** 63), 5, 2 ** 63 + 1)
        self.below(5, 2 ** 64 - 1, 8, bits(8, 2.0 ** 64))
        self.alike(4, 2 ** 63, 8, bits(8, -2.0 ** 63))
        self.below(8, bits(8, -2.0 ** 63), 4, 2 ** 63 + 1)
        self.below(8, bits(8, -2.0 ** 64), 4, 2 ** 63)

    def test_a_whole_one_beside_singles_and_halves(self):
        self.below(7, bits(7, 2.0 ** 24), 2, 2 ** 24 + 1)
        self.below(3, 2 ** 32 - 1, 7, bits(7, 2.0 ** 32))
        self.below(6, bits(6, 2048.0), 0, 2049)
        self.below(6, INFINITY[6] - 1, 1, 65535)
        self.alike(6, INFINITY[6] - 1, 1, 65504)

    def test_numbers_with_places_behind_the_point(self):
        for kind in BROKEN_KINDS:
            for whole in (0, 2, 4):
                self.below(whole, 2, kind, bits(kind, 2.5))
                self.below(kind, bits(kind, 2.5), whole, 3)
                self.below(kind, bits(kind, -2.5), whole, bits(whole, -2))
                self.below(whole, 0, kind, 1)
                self.below(kind, MINUS[kind] + 1, whole, 0)

    def test_a_tenth_as_each_broken_kind_has_it(self):
        half, single, double = 0x2E66, 0x3DCCCCCD, 0x3FB999999999999A
        self.below(6, half, 8, double)
        self.below(8, double, 7, single)
        self.below(6, half, 7, single)

    def test_the_least_of_each_broken_kind(self):
        self.below(8, 1, 7, 1)
        self.below(7, 1, 6, 1)
        self.below(6, MINUS[6] + 1, 8, MINUS[8] + 1)

    def as_the_oracle_has_it(self, kind_a, kind_b, pairs):
        answers = self.compared(kind_a, [pair[0] for pair in pairs], kind_b, [pair[1] for pair in pairs])
        for op, answer in enumerate(answers):
            held = [oracle.compares(op, kind_a, a, kind_b, b) for a, b in pairs]
            self.assertEqual(answer, [sum(held)] + bytes_of(held), (op, kind_a, kind_b))

    def test_as_the_oracle_has_it(self):
        for kind_a in KINDS:
            for kind_b in KINDS:
                # All pairs at once would be more than 2048 rows.
                for half in (0, 1):
                    pairs = [(a, b) for a in all_edges(kind_a)[half::2] for b in all_edges(kind_b)]
                    self.as_the_oracle_has_it(kind_a, kind_b, pairs)
                pairs = list(zip(scattered(kind_a, 200, kind_a), scattered(kind_b, 200, 20 + kind_b)))
                self.as_the_oracle_has_it(kind_a, kind_b, pairs)

    def test_a_number_beside_what_cast_makes_of_it(self):
        for old in KINDS:
            for new in BROKEN_KINDS:
                values = scattered(old, 200, 300 + old)
                pairs = [(v, oracle.cast(old, new, 0, v)) for v in values]
                self.as_the_oracle_has_it(old, new, pairs)


class Edges(CompareCase):
    def test_plus_0_and_minus_0_are_alike(self):
        for kind_a in BROKEN_KINDS:
            for kind_b in BROKEN_KINDS:
                self.alike(kind_a, 0, kind_b, MINUS[kind_b])
                self.alike(kind_a, MINUS[kind_a], kind_b, MINUS[kind_b])
            for whole in range(6):
                self.alike(whole, 0, kind_a, MINUS[kind_a])
                self.alike(whole, 0, kind_a, 0)

    def test_infinities(self):
        for kind_a in BROKEN_KINDS:
            up, down = INFINITY[kind_a], INFINITY[kind_a] + MINUS[kind_a]
            for kind_b in BROKEN_KINDS:
                self.alike(kind_a, up, kind_b, INFINITY[kind_b])
                self.alike(kind_a, down, kind_b, INFINITY[kind_b] + MINUS[kind_b])
                self.below(kind_a, down, kind_b, INFINITY[kind_b])
                self.below(kind_b, INFINITY[kind_b] - 1, kind_a, up)
                self.below(kind_a, down, kind_b, INFINITY[kind_b] - 1 + MINUS[kind_b])
            for whole, least, greatest in ((0, 1 << 15, (1 << 15) - 1), (4, 1 << 63, (1 << 63) - 1),
                                           (5, 0, (1 << 64) - 1)):
                self.below(whole, greatest, kind_a, up)
                self.below(kind_a, down, whole, least)

    def test_with_what_is_no_number_only_op_3_holds(self):
        for kind in BROKEN_KINDS:
            for none in (PLAIN[kind], PLAIN[kind] + MINUS[kind], INFINITY[kind] + 1, 2 * MINUS[kind] - 1):
                for other in KINDS:
                    for beside in (0, bits(other, 1)):
                        self.check(kind, none, other, beside, (UNORDERED,))
                        self.check(other, beside, kind, none, (UNORDERED,))
                for other in BROKEN_KINDS:
                    self.check(kind, none, other, PLAIN[other], (UNORDERED,))
                    self.check(kind, none, other, INFINITY[other], (UNORDERED,))

    def test_a_column_beside_itself(self):
        for kind in KINDS:
            values = all_edges(kind)
            rows = len(values)
            found = run(begin(rows), put(0, kind, values), *[compare(op, 0, 0, rows) for op in OPS])[2:]
            none = [kind >= 6 and oracle.is_none(kind, v) for v in values]
            some = [not each for each in none]
            wanted = [[sum(held)] + bytes_of(held) for held in (some, [False] * rows, some, none)]
            self.assertEqual(found, wanted)

    def test_where_one_is_missing_is_a_0(self):
        for kind_a in KINDS:
            for kind_b in KINDS:
                a, b = [bits(kind_a, 1)] * 4, [bits(kind_b, 1)] * 4
                found = run(begin(4), put(0, kind_a, a), put(1, kind_b, b), blank(0, 4, [0b0011]),
                            blank(1, 4, [0b0101]), *[compare(op, 0, 1, 4) for op in OPS])[5:]
                self.assertEqual(found, [[1, 8], [0, 0], [1, 8], [0, 0]])

    def test_what_is_missing_is_neither_0_nor_no_number(self):
        for kind in BROKEN_KINDS:
            found = run(begin(3), put(0, 3, [70000, 70000, 0]), cast(0, 0, 1, 0),
                        put(1, kind, [PLAIN[kind], 0, PLAIN[kind]]), *[compare(op, 0, 1, 3) for op in OPS],
                        *[compare(op, 1, 0, 3) for op in OPS])[4:]
            self.assertEqual(found, [[0, 0], [0, 0], [0, 0], [1, 4]] * 2)

    def test_the_mask_for_any_rows(self):
        for rows in (1, 7, 8, 9, 15, 16, 17, 2048):
            a = [i % 3 for i in range(rows)]
            found = run(begin(rows), put(0, 5, a), put(1, 0, [1] * rows), *[compare(op, 0, 1, rows) for op in OPS])
            held = [[x == 1 for x in a], [x < 1 for x in a], [x <= 1 for x in a], [False] * rows]
            self.assertEqual(found[3:], [[sum(each)] + bytes_of(each) for each in held])

    def test_bits_behind_the_last_row_are_told_as_0(self):
        found = run(begin(9), put(0, 0, [1] * 9), put(1, 8, [bits(8, 1.0)] * 9), compare(NO_MORE, 0, 1, 9))
        self.assertEqual(found[-1], [9, 255, 1])

    def test_changes_nothing(self):
        setup = [begin(2), put(0, 8, [PLAIN[8] + 1, 5]), put(1, 0, [1, 2]), blank(1, 2, [1])]
        before = run(*setup, *dump(2))[4:]
        self.assertEqual(run(*setup, *[compare(op, 0, 1, 2) for op in OPS], *dump(2))[8:], before)


if __name__ == "__main__":
    unittest.main()
