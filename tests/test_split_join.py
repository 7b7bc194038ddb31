"""Points 5 and 6."""

import unittest

import oracle
from support import (
    BROKEN_KINDS, INFINITY, MINUS, PLAIN, begin, bits, cast, edges, get, join, made, put, read, run, scattered, split,
)

LEAST_POWER = {6: -24.0, 7: -149.0, 8: -1074.0}
GREATEST_POWER = {6: 15.0, 7: 127.0, 8: 1023.0}


def taken_apart(kind, values):
    rows = len(values)
    found = run(begin(rows), put(0, kind, values), split(0, 1, 2), get(1, kind, rows), get(2, kind, rows),
                get(0, kind, rows))
    return found[2], read(found[3]), read(found[4]), read(found[5])


class Split(unittest.TestCase):
    def test_power_and_part(self):
        for kind in BROKEN_KINDS:
            for value, power, part in [(1.0, 0.0, 1.0), (1.5, 0.0, 1.5), (2.0, 1.0, 1.0), (10.0, 3.0, 1.25),
                                       (-10.0, 3.0, -1.25), (0.75, -1.0, 1.5), (-0.375, -2.0, -1.5)]:
                found = taken_apart(kind, [bits(kind, value)])
                self.assertEqual(found[:3], ([0], [bits(kind, power)], [bits(kind, part)]), (kind, value))

    def test_of_0_and_infinity(self):
        for kind in BROKEN_KINDS:
            values = [0, MINUS[kind], INFINITY[kind], INFINITY[kind] + MINUS[kind]]
            powers = [INFINITY[kind] + MINUS[kind]] * 2 + [INFINITY[kind]] * 2
            parts = [bits(kind, v) for v in (1.0, -1.0, 1.0, -1.0)]
            self.assertEqual(taken_apart(kind, values), ([0], powers, parts, values))

    def test_of_what_is_no_number(self):
        for kind in BROKEN_KINDS:
            odd = [INFINITY[kind] + 1, 2 * MINUS[kind] - 1]
            self.assertEqual(taken_apart(kind, odd), ([0], [PLAIN[kind]] * 2, [PLAIN[kind]] * 2, odd))

    def test_of_the_least_and_the_greatest(self):
        for kind in BROKEN_KINDS:
            one, top = bits(kind, 1.0), INFINITY[kind] - 1
            found = taken_apart(kind, [1, 3, top])
            self.assertEqual(found[1], [bits(kind, v) for v in
                                        (LEAST_POWER[kind], LEAST_POWER[kind] + 1, GREATEST_POWER[kind])])
            self.assertEqual(found[2], [one, bits(kind, 1.5), bits(kind, 2.0) - 1])

    def test_as_the_oracle_has_it(self):
        for kind in BROKEN_KINDS:
            values = edges(kind) + scattered(kind, 60, 60 + kind)
            wanted = [oracle.split(kind, v) for v in values]
            found = taken_apart(kind, values)
            self.assertEqual(found, ([0], [w[0] for w in wanted], [w[1] for w in wanted], values))

    def test_power_or_part_is_the_column_taken(self):
        for kind in BROKEN_KINDS:
            values = [bits(kind, v) for v in (10.0, -0.75)]
            powers = [bits(kind, v) for v in (3.0, -1.0)]
            parts = [bits(kind, v) for v in (1.25, -1.5)]
            for power, part in ((0, 1), (1, 0), (5, 0), (0, 5)):
                found = run(begin(2), put(0, kind, values), put(1, 0, [1, 2]), split(0, power, part),
                            get(power, kind, 2), get(part, kind, 2))
                self.assertEqual(found[3:], [[0], [2] + powers + [3], [2] + parts + [3]])

    def test_missing_is_missing_in_both(self):
        for kind in BROKEN_KINDS:
            found = run(begin(2), put(0, 3, [70000, 3]), cast(0, 0, 1, 0), cast(0, 0, kind, 0), split(0, 1, 2),
                        get(1, kind, 2), get(2, kind, 2))
            self.assertEqual(found[4:], [[0], [1, 0, bits(kind, 1.0), 2], [1, 0, bits(kind, 1.5), 2]])


class Join(unittest.TestCase):
    def check(self, kind, part, power, wanted):
        found = made([(kind, [part]), (kind, [power])], join(0, 1, 2), 2, kind)
        self.assertEqual(found, ([0], [wanted]), (kind, part, power))

    def test_part_times_2_to_power(self):
        for kind in BROKEN_KINDS:
            for part, power, wanted in [(1.25, 3.0, 10.0), (-1.25, 3.0, -10.0), (1.5, -1.0, 0.75), (3.0, 0.0, 3.0),
                                        (5.0, -0.0, 5.0), (0.0, 5.0, 0.0), (-0.0, 5.0, -0.0)]:
                self.check(kind, bits(kind, part), bits(kind, power), bits(kind, wanted))

    def test_power_is_rounded_down(self):
        for kind in BROKEN_KINDS:
            one = bits(kind, 1.0)
            for power, wanted in [(1.75, 2.0), (2.5, 4.0), (-0.25, 0.5), (-1.5, 0.25), (0.75, 1.0)]:
                self.check(kind, one, bits(kind, power), bits(kind, wanted))
            self.check(kind, one, 1, one)
            self.check(kind, one, 1 + MINUS[kind], bits(kind, 0.5))

    def test_infinity(self):
        for kind in BROKEN_KINDS:
            inf, down, three = INFINITY[kind], INFINITY[kind] + MINUS[kind], bits(kind, 3.0)
            minus_three, none = bits(kind, -3.0), PLAIN[kind]
            for part, power, wanted in [
                    (three, inf, inf), (minus_three, inf, down), (three, down, 0), (minus_three, down, MINUS[kind]),
                    (0, inf, none), (MINUS[kind], inf, none), (inf, down, none), (down, down, none), (inf, inf, inf),
                    (down, inf, down), (0, down, 0), (MINUS[kind], down, MINUS[kind]), (inf, minus_three, inf),
                    (down, three, down)]:
                self.check(kind, part, power, wanted)

    def test_powers_far_out(self):
        for kind in BROKEN_KINDS:
            top = INFINITY[kind] - 1
            low = top + MINUS[kind]
            for part, power, wanted in [
                    (1, top, INFINITY[kind]), (1 + MINUS[kind], top, INFINITY[kind] + MINUS[kind]), (top, low, 0),
                    (low, low, MINUS[kind]), (0, top, 0), (MINUS[kind], top, MINUS[kind]),
                    (INFINITY[kind], low, INFINITY[kind])]:
                self.check(kind, part, power, wanted)

    def test_what_is_no_number(self):
        for kind in BROKEN_KINDS:
            odd = INFINITY[kind] + 1
            for part, power in [(odd, 0), (0, odd), (odd, odd), (odd, INFINITY[kind]), (INFINITY[kind], odd)]:
                self.check(kind, part, power, PLAIN[kind])

    def test_is_rounded_once_to_the_nearest(self):
        for kind in BROKEN_KINDS:
            power = bits(kind, LEAST_POWER[kind])
            for part, wanted in [(0.5, 0), (1.5, 2), (2.5, 2), (0.75, 1), (0.25, 0), (3.5, 4)]:
                self.check(kind, bits(kind, part), power, wanted)
                self.check(kind, bits(kind, -part), power, wanted + MINUS[kind])
            below = bits(kind, LEAST_POWER[kind] - 1)
            self.check(kind, bits(kind, 1.0), below, 0)
            self.check(kind, bits(kind, 1.0) + 1, below, 1)
            self.check(kind, bits(kind, 2.0) - 1, bits(kind, GREATEST_POWER[kind]), INFINITY[kind] - 1)
            self.check(kind, bits(kind, 2.0), bits(kind, GREATEST_POWER[kind]), INFINITY[kind])

    def test_as_the_oracle_has_it(self):
        for kind in BROKEN_KINDS:
            numbers = edges(kind)
            numbers += [bits(kind, v) for v in (LEAST_POWER[kind], GREATEST_POWER[kind], -12.0, 11.5, -20.25)]
            for power in numbers:
                wanted = [oracle.join(kind, part, power) for part in numbers]
                found = made([(kind, numbers), (kind, [power] * len(numbers))], join(0, 1, 2), 2, kind)
                self.assertEqual(found, ([0], wanted), (kind, power))

    def test_puts_together_what_split_takes_apart(self):
        for kind in BROKEN_KINDS:
            values = edges(kind) + scattered(kind, 300, 80 + kind)
            wanted = [PLAIN[kind] if oracle.is_none(kind, v) else v for v in values]
            rows = len(values)
            found = run(begin(rows), put(0, kind, values), split(0, 1, 2), join(2, 1, 3), get(3, kind, rows))
            self.assertEqual(read(found[-1]), wanted)

    def test_a_column_taken_and_made_at_once(self):
        for kind in BROKEN_KINDS:
            columns = [(kind, [bits(kind, 1.5)]), (kind, [bits(kind, 2.0)])]
            self.assertEqual(made(columns, join(0, 1, 0), 0, kind), ([0], [bits(kind, 6.0)]))
            self.assertEqual(made(columns, join(0, 1, 1), 1, kind), ([0], [bits(kind, 6.0)]))
            self.assertEqual(made(columns, join(1, 1, 1), 1, kind), ([0], [bits(kind, 8.0)]))

    def test_missing_in_either_is_missing(self):
        for kind in BROKEN_KINDS:
            found = run(begin(4), put(0, 3, [70000, 3, 70000, 3]), cast(0, 0, 1, 0), cast(0, 0, kind, 0),
                        put(1, 3, [2, 70000, 70000, 1]), cast(1, 1, 1, 0), cast(1, 1, kind, 0),
                        join(0, 1, 2), get(2, kind, 4))
            self.assertEqual(found[7:], [[0], [1, 0, 0, 0, bits(kind, 6.0), 8]])


if __name__ == "__main__":
    unittest.main()
