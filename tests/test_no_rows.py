"""A table with 0 rows, as keep and pick may leave it: every call holds there too."""

import unittest

from support import (
    begin, blank, cast, choose, classes, compare, do, dump, ends, get, join, keep, more, pick, put, rest, run, split,
    told, told_kinds, total, whole,
)

# Column c is of kind c, up to 8; 9 is another double; the others aren't there.
KINDS = {c: c for c in range(9)}
KINDS[9] = 8
FILLED = [begin(3)] + [put(c, kind, [0, 1, 2]) for c, kind in KINDS.items()]
EMPTIED = {"keep": FILLED + [keep(3, [0b11111000])], "pick": FILLED + [pick([])]}
WHOLE_COLUMNS = range(6)


class NoRowsCase(unittest.TestCase):
    def check(self, call, wanted, made=None):
        """What the call answers there, and that just these columns, with their kinds, come to be."""
        for setup in EMPTIED.values():
            kinds = dict(KINDS)
            kinds.update(made or {})
            found = run(*setup, call, told(), *[get(c, kinds[c], 0) for c in kinds])
            self.assertEqual(found[len(setup):], [wanted, told_kinds(0, kinds)] + [[0]] * len(kinds), call)


class Answers(NoRowsCase):
    def test_both_ways_leave_0_rows(self):
        for setup in EMPTIED.values():
            self.assertEqual(run(*setup)[-1], [0])
        self.check(told(), told_kinds(0, KINDS))

    def test_begin(self):
        for setup in EMPTIED.values():
            self.assertEqual(run(*setup, begin(2), *dump(2))[len(setup):], run(begin(2), *dump(2)))
        for rows in (0, -1, 2049):
            self.check(begin(rows), [-2])

    def test_put_and_get(self):
        for c, kind in ((0, 0), (0, 8), (15, 3)):
            self.check(put(c, kind, []), [0], {c: kind})
        for c, kind in KINDS.items():
            self.check(get(c, kind, 0), [0])
        self.check(put(0, 0, [1]), [-2])
        self.check(put(0, 9, []), [-2])
        self.check(put(16, 0, []), [-2])
        self.check(get(0, 0, 1), [-2])
        self.check(get(0, 0, 3), [-2])
        self.check(get(10, 0, 0), [-3])
        self.check(get(1, 0, 0), [-4])

    def test_cast(self):
        for c in KINDS:
            for kind in range(9):
                self.check(cast(c, 10, kind, 0), [0], {10: kind})
                self.check(cast(c, c, kind, 3), [0], {c: kind})
        self.check(cast(0, 1, 8, 4), [-2])
        self.check(cast(11, 1, 8, 0), [-3])

    def test_whole_and_rest(self):
        for make in (whole, rest):
            for c in (6, 7, 8):
                self.check(make(c, 10, 0, 15), [0], {10: c})
            for c in WHOLE_COLUMNS:
                self.check(make(c, 10, 0, 0), [-4])
            self.check(make(8, 10, 0, 16), [-2])
            self.check(make(11, 10, 0, 0), [-3])

    def test_split_and_join(self):
        for c in (6, 7, 8):
            self.check(split(c, 10, 11), [0], {10: c, 11: c})
            self.check(join(c, c, 10), [0], {10: c})
        for c in WHOLE_COLUMNS:
            self.check(split(c, 10, 11), [-4])
            self.check(join(c, c, 10), [-4])
        self.check(split(8, 10, 10), [-2])
        self.check(split(10, 11, 12), [-3])
        self.check(join(7, 8, 10), [-4])
        self.check(join(8, 10, 10), [-3])

    def test_do_and_more(self):
        for c in KINDS:
            for op in range(5):
                self.check(do(op, c, c, 10), [0], {10: KINDS[c]})
        self.check(do(5, 8, 9, 10), [0], {10: 8})
        self.check(do(5, 0, 0, 10), [-4])
        self.check(do(0, 7, 8, 10), [-4])
        self.check(do(6, 8, 9, 10), [-2])
        self.check(do(0, 8, 10, 10), [-3])
        self.check(more(8, 9, 8, 10), [0], {10: 8})
        self.check(more(8, 7, 8, 10), [-4])
        self.check(more(8, 9, 10, 10), [-3])
        self.check(more(8, 9, 8, 16), [-2])

    def test_compare(self):
        for a in KINDS:
            for b in KINDS:
                for op in range(4):
                    self.check(compare(op, a, b, 0), [0])
        self.check(compare(0, 0, 1, 3), [-2])
        self.check(compare(4, 0, 1, 0), [-2])
        self.check(compare(0, 0, 10, 0), [-3])

    def test_classes_sum_and_ends(self):
        for c in KINDS:
            self.check(classes(c), [0] * 9)
            self.check(total(c), [0, 0, 0])
            self.check(ends(c), [-5])
        for call in (classes, total, ends):
            self.check(call(16), [-2])
            self.check(call(10), [-3])

    def test_blank_and_choose(self):
        for c in KINDS:
            self.check(blank(c, 0, []), [0])
            self.check(choose(c, c, 0, 10, []), [0], {10: KINDS[c]})
        self.check(blank(0, 3, [7]), [-2])
        self.check(blank(0, 1, [1]), [-2])
        self.check(blank(10, 0, []), [-3])
        self.check(choose(8, 9, 1, 10, [1]), [-2])
        self.check(choose(8, 10, 0, 10, []), [-3])
        self.check(choose(7, 8, 0, 10, []), [-4])

    def test_keep_and_pick(self):
        self.check(keep(0, []), [0])
        self.check(keep(1, [1]), [-2])
        self.check(keep(3, [7]), [-2])
        self.check(pick([]), [0])
        for which in ([0], [0, 0], [65535]):
            self.check(pick(which), [-2])


if __name__ == "__main__":
    unittest.main()
