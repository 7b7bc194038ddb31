"""Point 4."""

import unittest

import oracle
from support import (
    BROKEN_KINDS, INFINITY, MINUS, PLAIN, WAYS, begin, bits, cast, do, edges, get, made, put, read, rest, run,
    scattered, whole,
)


class Whole(unittest.TestCase):
    def check(self, parts, expected):
        for kind in BROKEN_KINDS:
            for value, *wanted in expected:
                for way in WAYS:
                    found = made([(kind, [bits(kind, value)])], whole(0, 1, way, parts), 1, kind)
                    self.assertEqual(found, ([0], [bits(kind, wanted[way])]), (kind, way, value))

    def test_whole_ones_by_the_four_ways(self):
        self.check(0, [
            (0.5, 0.0, 0.0, 1.0, 0.0), (1.5, 2.0, 1.0, 2.0, 1.0), (2.5, 2.0, 2.0, 3.0, 2.0),
            (-1.5, -2.0, -2.0, -1.0, -1.0), (-2.5, -2.0, -3.0, -2.0, -2.0), (7.0, 7.0, 7.0, 7.0, 7.0),
            (1.75, 2.0, 1.0, 2.0, 1.0), (1.25, 1.0, 1.0, 2.0, 1.0)])

    def test_parts(self):
        self.check(1, [(0.25, 0.0, 0.0, 0.5, 0.0), (0.75, 1.0, 0.5, 1.0, 0.5), (-0.75, -1.0, -1.0, -0.5, -0.5)])
        self.check(3, [(0.0625, 0.0, 0.0, 0.125, 0.0), (0.1875, 0.25, 0.125, 0.25, 0.125)])
        least = 2.0 ** -15
        self.check(15, [(least * 1.5, 2 * least, least, 2 * least, least), (least / 2, 0.0, 0.0, least, 0.0)])

    def test_0_has_its_own_sign(self):
        for kind in BROKEN_KINDS:
            zero = MINUS[kind]
            for value in (-0.0, -0.25, -0.5):
                self.assertEqual(made([(kind, [bits(kind, value)])], whole(0, 1, 0, 0), 1, kind), ([0], [zero]))
                self.assertEqual(made([(kind, [bits(kind, value)])], whole(0, 1, 2, 0), 1, kind), ([0], [zero]))
                self.assertEqual(made([(kind, [bits(kind, value)])], whole(0, 1, 3, 0), 1, kind), ([0], [zero]))
            self.assertEqual(made([(kind, [0, 1])], whole(0, 1, 1, 0), 1, kind), ([0], [0, 0]))
            self.assertEqual(made([(kind, [zero])], whole(0, 1, 1, 0), 1, kind), ([0], [zero]))

    def test_infinity_stays_and_what_is_no_number_is_the_plain_one(self):
        for kind in BROKEN_KINDS:
            odd = [INFINITY[kind], INFINITY[kind] + MINUS[kind], INFINITY[kind] + 1, 2 * MINUS[kind] - 1]
            wanted = odd[:2] + [PLAIN[kind]] * 2
            for way in WAYS:
                self.assertEqual(made([(kind, odd)], whole(0, 1, way, 3), 1, kind), ([0], wanted))

    def test_the_greatest_and_the_least(self):
        for kind in BROKEN_KINDS:
            top = INFINITY[kind] - 1
            values = [top, top + MINUS[kind], 1, 1 + MINUS[kind]]
            one = bits(kind, 1.0)
            zeros = {0: [0, MINUS[kind]], 1: [0, one + MINUS[kind]], 2: [one, MINUS[kind]], 3: [0, MINUS[kind]]}
            for way in WAYS:
                wanted = values[:2] + zeros[way]
                self.assertEqual(made([(kind, values)], whole(0, 1, way, 0), 1, kind), ([0], wanted))


class Rest(unittest.TestCase):
    def check(self, parts, expected):
        for kind in BROKEN_KINDS:
            for value, *wanted in expected:
                for way in WAYS:
                    found = made([(kind, [bits(kind, value)])], rest(0, 1, way, parts), 1, kind)
                    self.assertEqual(found, ([0], [bits(kind, wanted[way])]), (kind, way, value))

    def test_the_number_less_what_whole_makes(self):
        self.check(0, [
            (1.5, -0.5, 0.5, -0.5, 0.5), (2.5, 0.5, 0.5, -0.5, 0.5), (-1.5, 0.5, 0.5, -0.5, -0.5),
            (0.25, 0.25, 0.25, -0.75, 0.25), (-0.25, -0.25, 0.75, -0.25, -0.25)])
        self.check(2, [(0.375, -0.125, 0.125, -0.125, 0.125)])

    def test_plus_0_if_it_is_0_and_of_infinity(self):
        for kind in BROKEN_KINDS:
            values = [bits(kind, v) for v in (0.0, -0.0, 3.0, -3.0)]
            values += [INFINITY[kind] - 1, INFINITY[kind], INFINITY[kind] + MINUS[kind]]
            for way in WAYS:
                self.assertEqual(made([(kind, values)], rest(0, 1, way, 0), 1, kind), ([0], [0] * 7))

    def test_what_is_no_number_is_the_plain_one(self):
        for kind in BROKEN_KINDS:
            odd = [INFINITY[kind] + 1, 2 * MINUS[kind] - 1, PLAIN[kind] + MINUS[kind]]
            self.assertEqual(made([(kind, odd)], rest(0, 1, 0, 0), 1, kind), ([0], [PLAIN[kind]] * 3))

    def test_is_rounded_to_the_nearest(self):
        for kind in BROKEN_KINDS:
            minus_one = bits(kind, -1.0)
            self.assertEqual(made([(kind, [1])], rest(0, 1, 2, 0), 1, kind), ([0], [minus_one]))
            self.assertEqual(made([(kind, [1 + MINUS[kind]])], rest(0, 1, 1, 0), 1, kind), ([0], [bits(kind, 1.0)]))


class Both(unittest.TestCase):
    def test_as_the_oracle_has_it(self):
        for kind in BROKEN_KINDS:
            values = edges(kind) + scattered(kind, 120, 40 + kind)
            for way in WAYS:
                for parts in (0, 1, 7, 14, 15):
                    wanted = [oracle.whole(kind, way, parts, v) for v in values]
                    self.assertEqual(made([(kind, values)], whole(0, 1, way, parts), 1, kind), ([0], wanted))
                    wanted = [oracle.rest(kind, way, parts, v) for v in values]
                    self.assertEqual(made([(kind, values)], rest(0, 1, way, parts), 1, kind), ([0], wanted))

    def test_missing_stays_missing(self):
        for kind in BROKEN_KINDS:
            values = [70000, 3, 70000]
            for call in (whole(2, 3, 0, 0), rest(2, 3, 0, 0)):
                found = run(begin(3), put(0, 3, values), cast(0, 1, 1, 0), cast(1, 2, kind, 0), call, get(3, kind, 3))
                self.assertEqual(found[4], [0])
                self.assertEqual([x is None for x in read(found[5])], [True, False, True])

    def test_a_column_taken_and_made_at_once(self):
        for kind in BROKEN_KINDS:
            values = [bits(kind, 2.75), bits(kind, -0.5)]
            wanted = [bits(kind, 2.0), MINUS[kind]]
            self.assertEqual(made([(kind, values)], whole(0, 0, 3, 0), 0, kind), ([0], wanted))
            wanted = [bits(kind, 0.75), bits(kind, -0.5)]
            self.assertEqual(made([(kind, values)], rest(0, 0, 3, 0), 0, kind), ([0], wanted))

    def test_whole_and_rest_together_are_the_number(self):
        for kind in BROKEN_KINDS:
            values = [bits(kind, v) for v in (2.75, -2.75, 0.5, 1000.5, -0.125)]
            found = run(begin(5), put(0, kind, values), whole(0, 1, 1, 0), rest(0, 2, 1, 0), do(0, 1, 2, 3),
                        get(3, kind, 5))
            self.assertEqual(read(found[-1]), values)


if __name__ == "__main__":
    unittest.main()
