"""The refusals -2, -3, -4 of the calls compare to told, and -5 of ends, in this order; that nothing changes by them."""

import unittest

from refusal_case import ABSENT, NO_COLUMNS, NO_ROWS, RefusalCase
from support import blank, choose, classes, compare, ends, keep, pick, told, total

NO_COMPARISONS = (-1, 4, 2147483647, -2147483648)
NONE_LEFT = 11


def full_mask(n):
    """A mask as it is handed in with this n."""
    return [255] * ((n + 7) // 8) if 1 <= n <= 2048 else []


class Compare(RefusalCase):
    def test_wrong_arguments(self):
        for op in range(4):
            self.taken(compare(op, 8, 0, 2))
            self.taken(compare(op, 9, 9, 2))
            self.wrong_at(compare(op, 8, 0, 2), NO_COMPARISONS, NO_COLUMNS, NO_COLUMNS, NO_ROWS)

    def test_not_there(self):
        for op in range(4):
            self.refused(-3, compare(op, ABSENT, 8, 2), compare(op, 8, ABSENT, 2), compare(op, ABSENT, 15, 2))

    def test_every_kind_fits(self):
        for a in (0, 1, 2, 3, 6, 7, 8, 9, 10, 11):
            for b in (0, 1, 2, 3, 6, 7, 8, 9, 10, 11):
                self.taken(compare(1, a, b, 2))

    def test_order(self):
        self.refused(-2, compare(4, ABSENT, 8, 2), compare(0, ABSENT, 8, 3), compare(0, ABSENT, 16, 2),
                     compare(0, -1, ABSENT, 2), compare(-1, 16, ABSENT, 0))


class OneColumn(RefusalCase):
    def test_wrong_arguments(self):
        for call in (classes, total, ends):
            self.taken(call(0))
            self.taken(call(9))
            self.wrong_at(call(0), NO_COLUMNS)

    def test_not_there(self):
        for call in (classes, total, ends):
            self.refused(-3, call(ABSENT), call(15))

    def test_every_kind_fits(self):
        for call in (classes, total, ends):
            for c in (0, 1, 2, 3, 6, 7, 8, 9, 10):
                self.taken(call(c))

    def test_ends_of_none(self):
        self.refused(-5, ends(NONE_LEFT))
        self.taken(classes(NONE_LEFT))
        self.taken(total(NONE_LEFT))


class Blank(RefusalCase):
    def test_wrong_arguments(self):
        self.taken(blank(0, 2, [3]))
        self.taken(blank(NONE_LEFT, 2, [0]))
        self.refused(-2, *[blank(c, 2, [3]) for c in NO_COLUMNS])
        self.refused(-2, *[blank(0, n, full_mask(n)) for n in NO_ROWS])

    def test_not_there(self):
        self.refused(-3, blank(ABSENT, 2, [3]), blank(15, 2, [0]))

    def test_order(self):
        self.refused(-2, *[blank(ABSENT, n, full_mask(n)) for n in NO_ROWS])


class Choose(RefusalCase):
    def test_wrong_arguments(self):
        self.taken(choose(8, 9, 2, ABSENT, [1]))
        self.taken(choose(0, 0, 2, 0, [1]))
        for wrong in NO_COLUMNS:
            self.refused(-2, choose(wrong, 9, 2, ABSENT, [1]), choose(8, wrong, 2, ABSENT, [1]),
                         choose(8, 9, 2, wrong, [1]))
        self.refused(-2, *[choose(8, 9, n, ABSENT, full_mask(n)) for n in NO_ROWS])

    def test_not_there(self):
        self.refused(-3, choose(ABSENT, 8, 2, 9, [1]), choose(8, ABSENT, 2, 9, [3]), choose(8, ABSENT, 2, 9, [0]),
                     choose(ABSENT, ABSENT, 2, ABSENT, [0]), choose(ABSENT, 8, 2, 8, [0]))

    def test_kinds_differ(self):
        for mask in ([0], [1], [3]):
            self.refused(-4, choose(0, 1, 2, ABSENT, mask), choose(1, 0, 2, 0, mask), choose(8, 7, 2, 8, mask),
                         choose(0, 6, 2, 6, mask), choose(6, 0, 2, 0, mask), choose(3, 10, 2, 3, mask))

    def test_order(self):
        self.refused(-2, *[choose(ABSENT, 8, n, 9, full_mask(n)) for n in NO_ROWS])
        self.refused(-2, *[choose(7, 8, n, 9, full_mask(n)) for n in NO_ROWS])
        self.refused(-2, choose(ABSENT, 8, 2, 16, [1]), choose(7, 8, 2, -1, [1]), choose(ABSENT, 16, 2, 8, [1]))
        self.refused(-3, choose(0, ABSENT, 2, 8, [1]), choose(ABSENT, 7, 2, 8, [1]))


class KeepAndPick(RefusalCase):
    def test_wrong_arguments(self):
        self.taken(keep(2, [3]))
        self.taken(keep(2, [0]))
        self.refused(-2, *[keep(n, full_mask(n)) for n in NO_ROWS])
        self.taken(pick([0, 1, 0]))
        self.taken(pick([]))
        self.refused(-2, *[pick(which) for which in ([2], [0, 2], [2, 0], [0, 1, 65535], [0] * 2047 + [2])])


class Told(RefusalCase):
    def test_is_never_refused(self):
        self.taken(told())


if __name__ == "__main__":
    unittest.main()
