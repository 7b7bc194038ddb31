"""The refusals -2, -3, -4 of the calls begin to more, in this order, and that a refused call changes nothing."""

import unittest

from refusal_case import ABSENT, NO_COLUMNS, NO_KINDS, NO_OPERATIONS, NO_PARTS, NO_ROWS, NO_WAYS, RefusalCase
from support import begin, cast, do, get, join, more, put, rest, split, whole


class Begin(RefusalCase):
    def test_wrong_arguments(self):
        self.taken(begin(2))
        self.wrong_at(begin(2), (0, -1, 2049, 2147483647, -2147483648))


class Put(RefusalCase):
    def test_wrong_arguments(self):
        self.taken(put(0, 1, [1, 2]))
        self.taken(put(15, 8, [1, 2]))
        self.refused(-2, *[put(c, 0, [1, 2]) for c in NO_COLUMNS])
        self.refused(-2, *[put(0, kind, []) for kind in NO_KINDS])
        self.refused(-2, *[put(0, 0, values) for values in ([], [1], [1, 2, 3], [0] * 2048)])
        self.refused(-2, put(ABSENT, 0, [1, 2, 3]), put(-1, 9, []))

    def test_is_not_refused_for_a_column_of_another_kind(self):
        self.taken(put(0, 8, [1, 2]))


class Get(RefusalCase):
    def test_wrong_arguments(self):
        self.taken(get(0, 0, 2))
        self.wrong_at(get(0, 0, 2), NO_COLUMNS, NO_KINDS, NO_ROWS)

    def test_not_there(self):
        self.refused(-3, get(ABSENT, 0, 2), get(15, 8, 2))

    def test_another_kind(self):
        self.refused(-4, get(0, 1, 2), get(1, 0, 2), get(8, 4, 2), get(6, 1, 2), get(10, 3, 2))

    def test_order(self):
        self.refused(-2, get(ABSENT, 9, 2), get(ABSENT, 0, 3), get(0, 1, 3), get(16, 1, 2))
        self.refused(-3, get(ABSENT, 3, 2))


class Cast(RefusalCase):
    def test_wrong_arguments(self):
        self.taken(cast(0, ABSENT, 8, 0))
        self.taken(cast(0, 15, 0, 3))
        self.wrong_at(cast(0, ABSENT, 8, 0), NO_COLUMNS, NO_COLUMNS, NO_KINDS, NO_WAYS)
        self.wrong_at(cast(0, 0, 0, 3), NO_COLUMNS, NO_COLUMNS, NO_KINDS, NO_WAYS)

    def test_not_there(self):
        self.refused(-3, cast(ABSENT, 0, 8, 0), cast(ABSENT, ABSENT, 0, 0), cast(15, 8, 8, 3))

    def test_order(self):
        self.refused(-2, cast(ABSENT, 0, 9, 0), cast(ABSENT, 0, 8, 4), cast(ABSENT, 16, 8, 0))

    def test_every_kind_fits(self):
        for source in (0, 1, 2, 3, 6, 7, 8, 10):
            for kind in range(9):
                self.taken(cast(source, ABSENT, kind, 0))


class WholeAndRest(RefusalCase):
    def test_wrong_arguments(self):
        for make in (whole, rest):
            self.taken(make(8, ABSENT, 0, 0))
            self.taken(make(6, 6, 3, 15))
            self.wrong_at(make(8, ABSENT, 0, 0), NO_COLUMNS, NO_COLUMNS, NO_WAYS, NO_PARTS)
            self.wrong_at(make(6, 6, 3, 15), NO_COLUMNS, NO_COLUMNS, NO_WAYS, NO_PARTS)

    def test_not_there(self):
        for make in (whole, rest):
            self.refused(-3, make(ABSENT, 8, 0, 0), make(ABSENT, ABSENT, 3, 15))

    def test_not_broken(self):
        for make in (whole, rest):
            self.refused(-4, *[make(c, to, 0, 0) for c in (0, 1, 2, 3, 10) for to in (c, ABSENT, 8)])

    def test_order(self):
        for make in (whole, rest):
            for source in (ABSENT, 0):
                self.refused(-2, make(source, 16, 0, 0), make(source, 8, 4, 0), make(source, 8, 0, 16))


class Split(RefusalCase):
    def test_wrong_arguments(self):
        self.taken(split(8, ABSENT, 4))
        self.wrong_at(split(8, ABSENT, 4), NO_COLUMNS, NO_COLUMNS, NO_COLUMNS)

    def test_power_and_part_differ(self):
        self.refused(-2, *[split(8, c, c) for c in range(-1, 17)])

    def test_not_there(self):
        self.refused(-3, split(ABSENT, 8, 9), split(ABSENT, ABSENT, 9), split(15, 0, ABSENT))

    def test_not_broken(self):
        self.refused(-4, *[split(c, power, part) for c in (0, 1, 2, 3, 10) for power, part in ((8, 9), (c, 11))])

    def test_order(self):
        for source in (ABSENT, 0):
            self.refused(-2, split(source, 8, 8), split(source, 16, 8), split(source, 8, -1))


class Join(RefusalCase):
    def test_wrong_arguments(self):
        self.taken(join(8, 9, ABSENT))
        self.taken(join(6, 6, 6))
        self.wrong_at(join(8, 9, ABSENT), NO_COLUMNS, NO_COLUMNS, NO_COLUMNS)

    def test_not_there(self):
        self.refused(-3, join(ABSENT, 8, 9), join(8, ABSENT, 9), join(ABSENT, ABSENT, ABSENT))

    def test_not_the_same_broken_kind(self):
        self.refused(-4, join(8, 7, 9), join(7, 8, 9), join(6, 7, ABSENT), join(8, 6, 8), join(0, 0, ABSENT),
                     join(0, 8, 9), join(8, 0, 9), join(10, 10, ABSENT))

    def test_order(self):
        self.refused(-2, join(ABSENT, 8, 16), join(8, 7, 16), join(0, 0, -1), join(8, ABSENT, 16))
        self.refused(-3, join(0, ABSENT, 8), join(ABSENT, 0, 8))


class Do(RefusalCase):
    def test_wrong_arguments(self):
        for op in range(6):
            self.taken(do(op, 8, 9, ABSENT))
            self.wrong_at(do(op, 8, 9, ABSENT), NO_OPERATIONS, NO_COLUMNS, NO_COLUMNS, NO_COLUMNS)

    def test_not_there(self):
        for op in range(6):
            self.refused(-3, do(op, ABSENT, 8, 9), do(op, 8, ABSENT, 9), do(op, ABSENT, ABSENT, ABSENT))

    def test_kinds_differ(self):
        for op in range(6):
            self.refused(-4, do(op, 0, 1, ABSENT), do(op, 1, 0, 0), do(op, 8, 7, 8), do(op, 0, 6, 6),
                         do(op, 6, 0, 0), do(op, 3, 2, ABSENT))

    def test_a_by_b_of_whole_ones(self):
        self.refused(-4, *[do(5, c, c, to) for c in (0, 1, 2, 3, 10) for to in (c, ABSENT)])
        for op in range(5):
            self.taken(do(op, 0, 0, ABSENT))

    def test_order(self):
        self.refused(-2, do(6, ABSENT, 8, 9), do(-1, 0, 1, 2), do(0, ABSENT, 8, 16), do(5, 0, 0, 16))
        self.refused(-3, do(5, 0, ABSENT, 8), do(5, ABSENT, 0, 8))


class More(RefusalCase):
    def test_wrong_arguments(self):
        self.taken(more(8, 9, 8, ABSENT))
        self.wrong_at(more(8, 9, 8, ABSENT), NO_COLUMNS, NO_COLUMNS, NO_COLUMNS, NO_COLUMNS)

    def test_not_there(self):
        self.refused(-3, more(ABSENT, 8, 9, 8), more(8, ABSENT, 9, 8), more(8, 9, ABSENT, 8))

    def test_not_three_of_one_broken_kind(self):
        self.refused(-4, more(7, 8, 8, 9), more(8, 7, 8, 9), more(8, 8, 7, 9), more(0, 0, 0, ABSENT),
                     more(8, 8, 0, 9), more(0, 8, 8, 9), more(8, 0, 8, 9), more(6, 7, 8, ABSENT))

    def test_order(self):
        self.refused(-2, more(ABSENT, 8, 9, 16), more(7, 8, 8, 16), more(0, 0, 0, -1))
        self.refused(-3, more(0, 7, ABSENT, 8), more(ABSENT, 0, 7, 8), more(0, ABSENT, 0, 8))


if __name__ == "__main__":
    unittest.main()
