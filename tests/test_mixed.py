"""All calls mixed in one list: beside a second table that is reckoned another way."""

import random
import unittest

import support
from model import Model
from ninekinds.table import answers
from support import BITS, all_edges, begin, split_answers

CALLS = ("begin", "put", "get", "cast", "whole", "rest", "split", "join", "do", "more", "compare", "classes", "total",
         "ends", "blank", "choose", "keep", "pick", "told")
# begin, keep and pick are rarer, so that a table isn't gone or empty before much is done with it.
WEIGHTS = (1, 12, 12, 8, 5, 5, 5, 5, 12, 5, 12, 6, 6, 6, 8, 8, 2, 3, 5)


class Calls:
    """Calls by chance, mostly such as are taken, as the interface lets them be."""

    def __init__(self, seed):
        self.chance = random.Random(seed)
        self.model = Model()

    def mostly(self, usual, other):
        return other if self.chance.random() < 0.03 else usual

    def column(self):
        return self.mostly(self.chance.randrange(7), self.chance.choice((-1, 7, 15, 16, 2147483647)))

    def below(self, limit):
        return self.mostly(self.chance.randrange(limit), self.chance.choice((-1, limit, -2147483648)))

    def taken_kind(self, c):
        return self.mostly(self.model.kinds.get(c, 8), self.below(9))

    def n(self):
        return self.mostly(self.model.rows, self.chance.choice((-1, 0, 1, self.model.rows + 1, 2049)))

    def mask(self, n):
        return [self.chance.getrandbits(8) for byte in range((n + 7) // 8)] if 1 <= n <= 2048 else []

    def keep_mask(self, n):
        return [byte | self.chance.getrandbits(8) for byte in self.mask(n)]

    def values(self, kind):
        if kind not in range(9):
            return []
        edges = all_edges(kind)
        rows = self.mostly(self.model.rows, self.model.rows + 1)
        return [self.chance.choice(edges) if self.chance.random() < 0.6 else self.chance.getrandbits(BITS[kind])
                for row in range(rows)]

    def which(self):
        rows = self.model.rows
        if self.chance.random() < 0.05:
            return []
        picked = [self.chance.randrange(max(rows, 1)) for row in range(self.chance.randrange(1, 20))]
        return picked + self.mostly([], [rows])

    def given(self, name):
        column, below = self.column, self.below
        if name == "put":
            # Few kinds, so that columns of one kind come together.
            kind = self.mostly(self.chance.choice((0, 5, 6, 7, 8, 8)), below(9))
            return [column(), kind, self.values(kind)]
        if name == "get":
            c = column()
            return [c, self.taken_kind(c), self.n()]
        if name in ("blank", "keep", "choose"):
            n = self.n()
            return {"blank": lambda: [column(), n, self.mask(n)], "keep": lambda: [n, self.keep_mask(n)],
                    "choose": lambda: [column(), column(), n, column(), self.mask(n)]}[name]()
        return {
            "begin": lambda: [self.mostly(self.chance.randrange(1, 20), self.chance.choice((0, 2049)))],
            "cast": lambda: [column(), column(), below(9), below(4)],
            "whole": lambda: [column(), column(), below(4), below(16)],
            "rest": lambda: [column(), column(), below(4), below(16)],
            "split": lambda: [column(), column(), column()], "join": lambda: [column(), column(), column()],
            "do": lambda: [below(6), column(), column(), column()],
            "more": lambda: [column(), column(), column(), column()],
            "compare": lambda: [below(4), column(), column(), self.n()], "classes": lambda: [column()],
            "total": lambda: [column()], "ends": lambda: [column()], "pick": lambda: [self.which()],
            "told": lambda: [],
        }[name]()

    def line(self, length):
        """The calls, laid in one list, and what the second table answers to each."""
        rows = self.chance.randrange(1, 20)
        flat, wanted, names = begin(rows), [self.model.begin(rows)], ["begin"]
        for name in self.chance.choices(CALLS, WEIGHTS, k=length):
            given = self.given(name)
            call = getattr(support, name)(*given)
            if len(flat) + len(call) > 16000:
                break
            flat += call
            wanted.append(self.model.answer(name, *given))
            names.append(name)
        return flat, wanted, names


class Mixed(unittest.TestCase):
    def test_as_the_second_table_has_it(self):
        taken, refused = {}, {}
        for seed in range(120):
            flat, wanted, names = Calls(seed).line(299)
            handed = list(flat)
            found = split_answers(answers(flat))
            self.assertEqual(flat, handed)
            for place, name in enumerate(names):
                self.assertEqual(found[place], wanted[place], (seed, place, name))
                counts = refused if wanted[place][0] < 0 else taken
                counts[name] = counts.get(name, 0) + 1
            self.assertEqual(len(found), len(wanted))
        # The lists would tell little if some call were never taken in them, or never refused.
        self.assertEqual(sorted(taken), sorted(CALLS))
        self.assertEqual(sorted(refused), sorted(set(CALLS) - {"told"}))
        self.assertGreater(min(taken.values()), 100)


if __name__ == "__main__":
    unittest.main()
