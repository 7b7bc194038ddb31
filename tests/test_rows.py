"""Points 13, 14 and 15."""

import unittest

from support import (
    BITS, BROKEN_KINDS, INFINITY, MINUS, PLAIN, begin, bits, blank, bytes_of, cast, choose, do, dump, edges, get, join,
    keep, more, pick, put, read, rest, run, scattered, split, told, told_by_get, told_kinds, whole,
)


def column(kind, rows, seed):
    return scattered(kind, rows, 400 + 10 * seed + kind)


class Blank(unittest.TestCase):
    def test_those_with_a_1_are_missing_now(self):
        for kind in range(9):
            found = run(begin(4), put(0, kind, [5, 6, 7, 8]), blank(0, 4, [0b1010]), get(0, kind, 4))
            self.assertEqual(found[2:], [[2], [2, 5, 0, 7, 0, 0b0101]])

    def test_those_with_a_0_stay(self):
        found = run(begin(3), put(0, 8, [5, 6, 7]), blank(0, 3, [0]), get(0, 8, 3))
        self.assertEqual(found[2:], [[0], [3, 5, 6, 7, 7]])

    def test_all_of_them(self):
        found = run(begin(10), put(0, 3, range(10)), blank(0, 10, [255, 3]), get(0, 3, 10))
        self.assertEqual(found[2:], [[10], [0] + [0] * 10 + [0, 0]])

    def test_how_many_are_missing_in_all(self):
        found = run(begin(4), put(0, 1, [65535, 1, 2, 3]), cast(0, 0, 0, 0), blank(0, 4, [0b0010]),
                    blank(0, 4, [0b0011]), blank(0, 4, [0]), blank(0, 4, [0b1000]), get(0, 0, 4))
        self.assertEqual(found[2:], [[1], [2], [2], [2], [3], [1, 0, 0, 2, 0, 0b0100]])

    def test_bits_behind_the_last_row_are_not_looked_at(self):
        for rows in range(1, 18):
            spare = [0] * (rows // 8) + [255 - (1 << rows % 8) + 1] * (rows % 8 > 0)
            values = column(4, rows, 0)
            found = run(begin(rows), put(0, 4, values), blank(0, rows, spare), get(0, 4, rows))
            self.assertEqual(found[2:], [[0], told_by_get(values)])
            found = run(begin(rows), put(0, 4, values), blank(0, rows, [255] * len(spare)), get(0, 4, rows))
            self.assertEqual(found[2:], [[rows], told_by_get([None] * rows)])

    def test_each_bit_of_each_byte(self):
        values = list(range(1, 21))
        for row in range(20):
            mask = [0, 0, 0]
            mask[row // 8] = 1 << row % 8
            found = run(begin(20), put(0, 0, values), blank(0, 20, mask), get(0, 0, 20))
            self.assertEqual(read(found[-1]), [None if i == row else v for i, v in enumerate(values)])

    def test_other_columns_stay(self):
        found = run(begin(2), put(0, 8, [1, 2]), cast(0, 1, 8, 0), put(2, 8, [1, 2]), choose(0, 0, 2, 3, [3]),
                    blank(0, 2, [3]), get(1, 8, 2), get(2, 8, 2), get(3, 8, 2), told())
        self.assertEqual(found[5:], [[2]] + [[2, 1, 2, 3]] * 3 + [told_kinds(2, {0: 8, 1: 8, 2: 8, 3: 8})])

    def test_what_is_missing_stays_so_through_other_calls(self):
        found = run(begin(2), put(0, 8, [bits(8, 1.0)] * 2), blank(0, 2, [1]), cast(0, 1, 5, 0), whole(0, 2, 0, 0),
                    do(0, 0, 0, 3), get(1, 5, 2), get(2, 8, 2), get(3, 8, 2))
        self.assertEqual(found[3:], [[1], [0], [0], [1, 0, 1, 2], [1, 0, bits(8, 1.0), 2], [1, 0, bits(8, 2.0), 2]])

    def test_a_put_brings_them_back(self):
        found = run(begin(2), put(0, 8, [1, 2]), blank(0, 2, [3]), put(0, 8, [3, 4]), get(0, 8, 2))
        self.assertEqual(found[-1], [2, 3, 4, 3])

    def test_what_is_no_number_stays_as_it_was_handed_over(self):
        for kind in BROKEN_KINDS:
            values = edges(kind)
            n = len(values)
            found = run(begin(n), put(0, kind, values), blank(0, n, [1] + [0] * ((n - 1) // 8)), get(0, kind, n))
            self.assertEqual(read(found[-1]), [None] + values[1:])


class Choose(unittest.TestCase):
    def test_as_where_the_mask_has_1_else_bs(self):
        for kind in range(9):
            found = run(begin(4), put(0, kind, [1, 2, 3, 4]), put(1, kind, [5, 6, 7, 8]),
                        choose(0, 1, 4, 2, [0b0110]), get(2, kind, 4), get(0, kind, 4), get(1, kind, 4))
            self.assertEqual(found[3:], [[0], [4, 5, 2, 3, 8, 15], [4, 1, 2, 3, 4, 15], [4, 5, 6, 7, 8, 15]])

    def test_bits_behind_the_last_row_are_not_looked_at(self):
        for rows in range(1, 18):
            a, b = column(2, rows, 1), column(2, rows, 2)
            spare = [0] * (rows // 8) + [255 - (1 << rows % 8) + 1] * (rows % 8 > 0)
            for mask, wanted in ((spare, b), ([255] * len(spare), a)):
                found = run(begin(rows), put(0, 2, a), put(1, 2, b), choose(0, 1, rows, 2, mask), get(2, 2, rows))
                self.assertEqual(found[3:], [[0], told_by_get(wanted)])

    def test_missing_where_that_one_is_and_there_alone(self):
        for kind in range(9):
            found = run(begin(8), put(0, kind, range(1, 9)), put(1, kind, range(11, 19)), blank(0, 8, [0b00001111]),
                        blank(1, 8, [0b00110011]), choose(0, 1, 8, 2, [0b01010101]), get(2, kind, 8))
            self.assertEqual(found[5], [0])
            self.assertEqual(read(found[6]), [None, None, None, 14, 5, None, 7, 18])

    def test_a_column_taken_and_made_at_once(self):
        a, b, wanted = [1, 2, 3], [4, 5, 6], [1, 5, 3]
        for to in (0, 1, 2):
            found = run(begin(3), put(0, 3, a), put(1, 3, b), choose(0, 1, 3, to, [0b101]), get(to, 3, 3))
            self.assertEqual(found[-1], told_by_get(wanted))
        found = run(begin(3), put(0, 3, a), choose(0, 0, 3, 0, [0b101]), get(0, 3, 3))
        self.assertEqual(found[-1], told_by_get(a))

    def test_takes_the_place_of_a_column_of_another_kind(self):
        found = run(begin(2), put(0, 7, [1, 2]), put(1, 7, [3, 4]), put(2, 0, [5, 6]), choose(0, 1, 2, 2, [1]),
                    get(2, 0, 2), get(2, 7, 2))
        self.assertEqual(found[4:], [[0], [-4], [2, 1, 4, 3]])

    def test_what_is_no_number_stays_as_it_was_handed_over(self):
        for kind in BROKEN_KINDS:
            odd = [INFINITY[kind] + 1, 2 * MINUS[kind] - 1, PLAIN[kind] + MINUS[kind], MINUS[kind]]
            found = run(begin(4), put(0, kind, odd), put(1, kind, odd[::-1]), choose(0, 1, 4, 2, [0b0011]),
                        get(2, kind, 4))
            self.assertEqual(read(found[-1]), odd[:2] + odd[1::-1])

    def test_what_is_chosen_does_not_hang_on_what_it_was_chosen_from(self):
        found = run(begin(2), put(0, 0, [1, 2]), choose(0, 0, 2, 1, [3]), blank(0, 2, [1]), get(1, 0, 2),
                    blank(1, 2, [2]), get(0, 0, 2), get(1, 0, 2))
        self.assertEqual(found[4:], [[2, 1, 2, 3], [1], [1, 0, 2, 2], [1, 1, 0, 1]])


class Keep(unittest.TestCase):
    def test_the_rows_with_a_1_stay_in_order_in_all_columns(self):
        puts = [put(c, c % 9, [10 * c + i for i in range(5)]) for c in range(16)]
        found = run(begin(5), *puts, keep(5, [0b10110]), told(), *[get(c, c % 9, 3) for c in range(16)])
        self.assertEqual(found[17], [3])
        self.assertEqual(found[18], told_kinds(3, {c: c % 9 for c in range(16)}))
        self.assertEqual(found[19:], [[3, 10 * c + 1, 10 * c + 2, 10 * c + 4, 7] for c in range(16)])

    def test_missing_ones_stay_missing(self):
        found = run(begin(4), put(0, 0, [1, 2, 3, 4]), blank(0, 4, [0b0110]), keep(4, [0b1110]), get(0, 0, 3))
        self.assertEqual(found[3:], [[3], [1, 0, 0, 4, 4]])

    def test_bits_behind_the_last_row_are_not_looked_at(self):
        for rows in range(1, 18):
            values = column(5, rows, 3)
            size = (rows + 7) // 8
            spare = [0] * (rows // 8) + [255 - (1 << rows % 8) + 1] * (rows % 8 > 0)
            found = run(begin(rows), put(0, 5, values), keep(rows, [255] * size), get(0, 5, rows))
            self.assertEqual(found[2:], [[rows], told_by_get(values)])
            found = run(begin(rows), put(0, 5, values), keep(rows, spare), get(0, 5, 0), told())
            self.assertEqual(found[2:], [[0], [0], told_kinds(0, {0: 5})])
            found = run(begin(rows), put(0, 5, values), keep(rows, [spare[0] | 1] + spare[1:]), get(0, 5, 1))
            self.assertEqual(found[2:], [[1], [1, values[0], 1]])

    def test_rows_all_over(self):
        values = column(8, 2048, 4)
        held = [v % 3 == 0 for v in values]
        wanted = [v for v, each in zip(values, held) if each]
        n = len(wanted)
        found = run(begin(2048), put(0, 8, values), keep(2048, bytes_of(held)), get(0, 8, n), get(0, 8, 2048))
        self.assertEqual(found[2:], [[n], told_by_get(wanted), [-2]])

    def test_without_a_column(self):
        self.assertEqual(run(begin(9), keep(9, [129, 1]), told()), [[0], [3], told_kinds(3, {})])

    def test_again_and_again(self):
        found = run(begin(9), put(0, 0, range(9)), keep(9, [0b11110111, 1]), keep(8, [0b11101011]), keep(6, [0b101010]),
                    get(0, 0, 3))
        self.assertEqual(found[2:], [[8], [6], [3], [3, 1, 6, 8, 7]])

    def test_what_is_no_number_stays_as_it_was_handed_over(self):
        for kind in BROKEN_KINDS:
            odd = INFINITY[kind] + 1
            found = run(begin(2), put(0, kind, [0, odd]), keep(2, [2]), get(0, kind, 1))
            self.assertEqual(found[-1], [1, odd, 1])

    def test_a_begin_behind_it(self):
        found = run(begin(2), put(0, 0, [1, 2]), keep(2, [1]), begin(2), told(), put(0, 0, [3, 4]), get(0, 0, 2))
        self.assertEqual(found[3:], [[0], told_kinds(2, {}), [0], [2, 3, 4, 3]])

    def test_a_refused_begin_behind_it(self):
        found = run(begin(2), put(0, 0, [1, 2]), keep(2, [2]), begin(0), told(), get(0, 0, 1))
        self.assertEqual(found[3:], [[-2], told_kinds(1, {0: 0}), [1, 2, 1]])


class Pick(unittest.TestCase):
    def test_row_i_is_what_row_which_i_was(self):
        puts = [put(c, c % 9, [10 * c + i for i in range(3)]) for c in range(16)]
        found = run(begin(3), *puts, pick([2, 0, 1, 2, 2]), told(), *[get(c, c % 9, 5) for c in range(16)])
        self.assertEqual(found[17], [5])
        self.assertEqual(found[18], told_kinds(5, {c: c % 9 for c in range(16)}))
        self.assertEqual(found[19:], [[5] + [10 * c + i for i in (2, 0, 1, 2, 2)] + [31] for c in range(16)])

    def test_fewer_as_many_and_more_rows(self):
        for which in ([0], [1], [1, 0], [0, 1], [1, 1, 1], [0, 1] * 1024, [1] * 2047):
            found = run(begin(2), put(0, 2, [7, 8]), pick(which), get(0, 2, len(which)))
            self.assertEqual(found[2:], [[len(which)], told_by_get([7 + i for i in which])])

    def test_the_last_of_2048_rows(self):
        values = column(3, 2048, 5)
        which = list(range(2047, -1, -1))
        found = run(begin(2048), put(0, 3, values), pick(which), get(0, 3, 2048))
        self.assertEqual(found[2:], [[2048], told_by_get(values[::-1])])

    def test_missing_ones_go_along(self):
        found = run(begin(3), put(0, 0, [1, 2, 3]), blank(0, 3, [2]), pick([1, 2, 1, 0]), get(0, 0, 4))
        self.assertEqual(found[3:], [[4], [2, 0, 3, 0, 1, 0b1010]])

    def test_none(self):
        found = run(begin(3), put(0, 0, [1, 2, 3]), pick([]), told(), get(0, 0, 0), get(0, 0, 3))
        self.assertEqual(found[2:], [[0], told_kinds(0, {0: 0}), [0], [-2]])

    def test_one_that_is_not_below_rows(self):
        setup = [begin(3), put(0, 0, [1, 2, 3])]
        before = run(*setup, *dump(3))[2:]
        for which in ([3], [65535], [0, 1, 2, 3], [3, 0], [0, 65535, 1], [2048] * 2048):
            self.assertEqual(run(*setup, pick(which), *dump(3))[2:], [[-2]] + before)

    def test_more_than_2048(self):
        self.assertEqual(run(begin(2), pick([1] * 2048), told()), [[0], [2048], told_kinds(2048, {})])
        self.assertEqual(run(begin(2), pick([1] * 2049), told()), [[0], [-2], told_kinds(2, {})])

    def test_rows_that_were_there_before_are_not_there_any_more(self):
        found = run(begin(3), put(0, 0, [1, 2, 3]), pick([2]), pick([1]), pick([0, 0]), pick([1]), get(0, 0, 1))
        self.assertEqual(found[2:], [[1], [-2], [2], [1], [1, 3, 1]])

    def test_without_a_column(self):
        self.assertEqual(run(begin(1), pick([0, 0, 0]), told()), [[0], [3], told_kinds(3, {})])

    def test_what_is_no_number_stays_as_it_was_handed_over(self):
        for kind in BROKEN_KINDS:
            odd = [INFINITY[kind] + 1, 2 * MINUS[kind] - 1]
            found = run(begin(2), put(0, kind, odd), pick([1, 0]), get(0, kind, 2))
            self.assertEqual(found[-1], told_by_get(odd[::-1]))

    def test_calls_on_more_rows_than_there_were(self):
        found = run(begin(1), put(0, 0, [5]), pick([0] * 9), put(1, 0, range(9)), do(0, 0, 1, 2), get(2, 0, 9))
        self.assertEqual(found[3:], [[0], [0], told_by_get([5 + i for i in range(9)])])


class Told(unittest.TestCase):
    def test_a_new_table(self):
        for rows in (1, 2, 8, 2048):
            self.assertEqual(run(begin(rows), told()), [[0], [0, rows] + [4294967295] * 16])

    def test_each_column_and_each_kind(self):
        for c in range(16):
            for kind in range(9):
                self.assertEqual(run(begin(1), put(c, kind, [0]), told())[-1], told_kinds(1, {c: kind}))

    def test_behind_each_call_that_makes_columns(self):
        found = run(
            begin(2), put(0, 8, [bits(8, 1.0)] * 2), told(), cast(0, 3, 1, 0), told(), cast(0, 4, 6, 0), told(),
            whole(4, 5, 0, 0), told(), rest(0, 6, 0, 0), told(), split(4, 15, 7), told(), join(0, 6, 8), told(),
            do(2, 3, 3, 9), told(), more(0, 0, 6, 10), told(), choose(3, 9, 2, 11, [1]), told(), cast(0, 0, 2, 0),
            told(), choose(3, 9, 2, 15, [1]), told(), begin(7), told())
        kinds = {}
        wanted = []
        for made in ({0: 8}, {3: 1}, {4: 6}, {5: 6}, {6: 8}, {15: 6, 7: 6}, {8: 8}, {9: 1}, {10: 8}, {11: 1}, {0: 2},
                     {15: 1}):
            kinds.update(made)
            wanted += [[0], told_kinds(2, kinds)]
        self.assertEqual(found, [[0]] + wanted + [[0], told_kinds(7, {})])

    def test_behind_calls_that_make_no_column(self):
        found = run(begin(9), put(2, 6, [0] * 9), blank(2, 9, [1, 0]), told(), keep(9, [255, 0]), told(), pick([1, 2]),
                    told(), get(3, 6, 2), told())
        self.assertEqual(found[3::2], [told_kinds(n, {2: 6}) for n in (9, 8, 2, 2)])

    def test_a_column_of_which_all_are_missing_is_there(self):
        found = run(begin(2), put(2, 6, [0, 0]), blank(2, 2, [3]), told())
        self.assertEqual(found[-1], told_kinds(2, {2: 6}))

    def test_a_refused_call_makes_no_column(self):
        found = run(begin(2), put(0, 9, []), put(0, 1, [1]), cast(0, 1, 8, 0), put(2, 1, [1, 2]), whole(2, 3, 0, 0),
                    choose(2, 3, 2, 4, [0]), told())
        self.assertEqual(found[1:], [[-2], [-2], [-3], [0], [-4], [-3], told_kinds(2, {2: 1})])


class Widths(unittest.TestCase):
    def test_the_greatest_bits_of_each_kind_go_along(self):
        for kind in range(9):
            top = (1 << BITS[kind]) - 1
            found = run(begin(2), put(0, kind, [top, 0]), choose(0, 0, 2, 1, [1]), keep(2, [1]), pick([0, 0]),
                        get(1, kind, 2))
            self.assertEqual(found[-1], [2, top, top, 3])


if __name__ == "__main__":
    unittest.main()
