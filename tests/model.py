"""A second table, row by row and by the oracle, for lists in which all calls are mixed."""

import oracle
from support import bytes_of, told_by_get, told_kinds

NOT_AS_TOLD, NOT_THERE, UNFIT = [-2], [-3], [-4]


class Model:
    def __init__(self):
        self.rows = 0
        self.kinds = {}
        self.numbers = {}

    def answer(self, name, *given):
        return getattr(self, name)(*given)

    def refusal(self, fit, taken, same=True, broken=False):
        if not fit:
            return NOT_AS_TOLD
        if any(c not in self.kinds for c in taken):
            return NOT_THERE
        kinds = {self.kinds[c] for c in taken}
        if (same and len(kinds) > 1) or (broken and min(kinds) < 6):
            return UNFIT
        return None

    def store(self, to, kind, numbers):
        self.kinds[to] = kind
        self.numbers[to] = list(numbers)

    def rowwise(self, make, *taken):
        taken_rows = zip(*[self.numbers[c] for c in taken])
        return [None if None in row else make(*row) for row in taken_rows]

    def begin(self, rows):
        if not 1 <= rows <= 2048:
            return NOT_AS_TOLD
        self.rows, self.kinds, self.numbers = rows, {}, {}
        return [0]

    def put(self, c, kind, values):
        if not (c in range(16) and kind in range(9) and len(values) == self.rows):
            return NOT_AS_TOLD
        self.store(c, kind, values)
        return [0]

    def get(self, c, kind, n):
        refused = self.refusal(c in range(16) and kind in range(9) and n == self.rows, [c])
        if refused:
            return refused
        return UNFIT if self.kinds[c] != kind else told_by_get(self.numbers[c])

    def cast(self, source, to, kind, way):
        fit = source in range(16) and to in range(16) and kind in range(9) and way in range(4)
        refused = self.refusal(fit, [source])
        if refused:
            return refused
        old = self.kinds[source]
        self.store(to, kind, self.rowwise(lambda x: oracle.cast(old, kind, way, x), source))
        return [self.numbers[to].count(None)]

    def whole(self, source, to, way, parts, make=oracle.whole):
        fit = source in range(16) and to in range(16) and way in range(4) and parts in range(16)
        refused = self.refusal(fit, [source], broken=True)
        if refused:
            return refused
        kind = self.kinds[source]
        self.store(to, kind, self.rowwise(lambda x: make(kind, way, parts, x), source))
        return [0]

    def rest(self, source, to, way, parts):
        return self.whole(source, to, way, parts, oracle.rest)

    def split(self, source, power, part):
        fit = all(c in range(16) for c in (source, power, part)) and power != part
        refused = self.refusal(fit, [source], broken=True)
        if refused:
            return refused
        kind = self.kinds[source]
        pairs = self.rowwise(lambda x: oracle.split(kind, x), source)
        self.store(power, kind, [pair and pair[0] for pair in pairs])
        self.store(part, kind, [pair and pair[1] for pair in pairs])
        return [0]

    def made(self, fit, taken, to, make, broken):
        """Of columns of one kind, one of that kind."""
        refused = self.refusal(fit and all(c in range(16) for c in [*taken, to]), taken, broken=broken)
        if refused:
            return refused
        kind = self.kinds[taken[0]]
        self.store(to, kind, self.rowwise(lambda *row: make(kind, *row), *taken))
        return [0]

    def join(self, part, power, to):
        return self.made(True, [part, power], to, oracle.join, True)

    def do(self, op, a, b, to):
        def make(kind, x, y):
            return oracle.do_broken(kind, op, x, y) if kind > 5 else oracle.do_whole(kind, op, x, y)
        return self.made(op in range(6), [a, b], to, make, op == 5)

    def more(self, a, b, c, to):
        return self.made(True, [a, b, c], to, oracle.more, True)

    def compare(self, op, a, b, n):
        fit = op in range(4) and a in range(16) and b in range(16) and n == self.rows
        refused = self.refusal(fit, [a, b], same=False)
        if refused:
            return refused
        held = self.rowwise(lambda x, y: oracle.compares(op, self.kinds[a], x, self.kinds[b], y), a, b)
        return [held.count(True)] + bytes_of(held)

    def look(self, c, find):
        return self.refusal(c in range(16), [c]) or find(self.kinds[c], self.numbers[c])

    def classes(self, c):
        return self.look(c, oracle.classes)

    def total(self, c):
        return self.look(c, oracle.summed)

    def ends(self, c):
        return self.look(c, oracle.ends)

    def set_rows(self, mask):
        return [row for row in range(self.rows) if f"{mask[row // 8]:08b}"[7 - row % 8] == "1"]

    def blank(self, c, n, mask):
        refused = self.refusal(c in range(16) and n == self.rows, [c])
        if refused:
            return refused
        for row in self.set_rows(mask):
            self.numbers[c][row] = None
        return [self.numbers[c].count(None)]

    def choose(self, a, b, n, to, mask):
        refused = self.refusal(all(c in range(16) for c in (a, b, to)) and n == self.rows, [a, b])
        if refused:
            return refused
        chosen = list(self.numbers[b])
        for row in self.set_rows(mask):
            chosen[row] = self.numbers[a][row]
        self.store(to, self.kinds[a], chosen)
        return [0]

    def keep(self, n, mask):
        return NOT_AS_TOLD if n != self.rows else self.pick(self.set_rows(mask))

    def pick(self, which):
        if which and max(which) >= self.rows:
            return NOT_AS_TOLD
        for c, old in self.numbers.items():
            self.numbers[c] = [old[row] for row in which]
        self.rows = len(which)
        return [self.rows]

    def told(self):
        return told_kinds(self.rows, self.kinds)
