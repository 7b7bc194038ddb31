"""Points 1 and 2."""

import unittest

from support import BITS, begin, cast, dump, edges, get, put, run, scattered, told_by_get, told_kinds


class Begin(unittest.TestCase):
    def test_answers_0_from_1_to_2048_rows(self):
        for rows in (1, 2, 7, 8, 9, 2047, 2048):
            self.assertEqual(run(begin(rows), get(0, 0, rows)), [[0], [-3]])

    def test_no_column_is_there(self):
        self.assertEqual(run(begin(3), *dump(3)), [[0], told_kinds(3, {})] + [[-3]] * 144)

    def test_refuses_other_rows_and_leaves_all_as_it_was(self):
        before = run(begin(2), put(3, 0, [5, 6]), *dump(2))
        for rows in (0, -1, 2049, 2147483647, -2147483648):
            after = run(begin(2), put(3, 0, [5, 6]), begin(rows), *dump(2))
            self.assertEqual(after[2], [-2])
            self.assertEqual(after[3:], before[2:])

    def test_a_begin_that_comes_again_takes_the_columns_away(self):
        found = run(begin(2), put(0, 0, [5, 6]), put(15, 8, [5, 6]), begin(3), get(0, 0, 3), get(15, 8, 3),
                    get(0, 0, 2), put(0, 1, [7, 8, 9]), get(0, 1, 3))
        self.assertEqual(found, [[0], [0], [0], [0], [-3], [-3], [-2], [0], [3, 7, 8, 9, 7]])

    def test_a_begin_with_the_same_rows_takes_the_columns_away_too(self):
        self.assertEqual(run(begin(1), put(0, 0, [5]), begin(1), get(0, 0, 1)), [[0], [0], [0], [-3]])


class PutAndGet(unittest.TestCase):
    def test_numbers_come_back_by_their_bits(self):
        for kind in range(9):
            top = (1 << BITS[kind]) - 1
            values = [0, 1, top, top >> 1, (top >> 1) + 1]
            self.assertEqual(run(begin(5), put(4, kind, values), get(4, kind, 5)), [[0], [0], [5] + values + [31]])

    def test_what_is_no_number_stays_as_it_was_handed_over(self):
        for kind in (6, 7, 8):
            values = edges(kind)
            found = run(begin(len(values)), put(0, kind, values), get(0, kind, len(values)))
            self.assertEqual(found[2], told_by_get(values))

    def test_every_column_is_its_own(self):
        puts = [put(c, c % 9, [c, 100 + c]) for c in range(16)]
        gets = [get(c, c % 9, 2) for c in range(16)]
        found = run(begin(2), *puts, *gets)
        self.assertEqual(found[:17], [[0]] * 17)
        self.assertEqual(found[17:], [[2, c, 100 + c, 3] for c in range(16)])

    def test_a_put_takes_the_place_of_numbers_kind_and_missing_ones(self):
        found = run(begin(2), put(0, 1, [65535, 1]), cast(0, 0, 0, 0), get(0, 0, 2), put(0, 7, [8, 9]),
                    get(0, 0, 2), get(0, 7, 2))
        self.assertEqual(found[2:], [[1], [1, 0, 1, 2], [0], [-4], [2, 8, 9, 3]])

    def test_missing_numbers_are_told_as_0_and_in_the_mask(self):
        values = [65535, 1, 2, 40000, 4, 5, 6, 32768, 32767, 32768, 0]
        found = run(begin(11), put(0, 1, values), cast(0, 0, 0, 0), get(0, 0, 11))
        self.assertEqual(found[2:], [[4], [7, 0, 1, 2, 0, 4, 5, 6, 0, 32767, 0, 0, 0b01110110, 0b00000101]])

    def test_1_and_2048_rows(self):
        self.assertEqual(run(begin(1), put(0, 0, [9]), get(0, 0, 1)), [[0], [0], [1, 9, 1]])
        values = scattered(5, 2048, 1)
        found = run(begin(2048), put(0, 5, values), get(0, 5, 2048))
        self.assertEqual(found[2], [2048] + values + [255] * 256)

    def test_bits_of_the_mask_behind_the_last_row_are_0(self):
        for rows in range(1, 18):
            mask = run(begin(rows), put(0, 0, [0] * rows), get(0, 0, rows))[2][1 + rows:]
            self.assertEqual(mask, [255] * (rows // 8) + [(1 << rows % 8) - 1] * (rows % 8 > 0))


if __name__ == "__main__":
    unittest.main()
