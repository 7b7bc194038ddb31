"""What the tests of refusals share: a table, wrong numbers of each sort, and checks that nothing changes."""

import unittest

from support import PLAIN, begin, bits, blank, cast, dump, put, run

NO_COLUMNS = (-1, 16, 2147483647, -2147483648)
NO_KINDS = (-1, 9, 2147483647, -2147483648)
NO_WAYS = (-1, 4, 2147483647, -2147483648)
NO_PARTS = (-1, 16, 2147483647, -2147483648)
NO_OPERATIONS = (-1, 6, 2147483647, -2147483648)
NO_ROWS = (0, 1, 3, -1, 2048, 2147483647, -2147483648)

# Columns 0 to 3 are whole ones, 6 to 8 broken ones, 9 is another double, 10 has a missing number, 11 has only what's
# missing or no number; the others aren't there.
SETUP = [
    begin(2), put(0, 0, [1, 2]), put(1, 1, [3, 4]), put(2, 2, [5, 6]), put(3, 3, [7, 70000]), put(6, 6, [0x3C00, 1]),
    put(7, 7, [bits(7, 1.5), 0xFFFFFFFF]), put(8, 8, [bits(8, 2.5), 0]), put(9, 8, [bits(8, -1.0), 1]),
    cast(3, 10, 1, 0), put(11, 8, [PLAIN[8], 1]), blank(11, 2, [2]),
]
ABSENT = 5
BEFORE = run(*SETUP, *dump(2))[len(SETUP):]


def with_one_wrong(call, place, wrongs):
    """The call with each of these in the place of one of its numbers; place 0 is the first behind its own number."""
    return [call[:1 + place] + [wrong] + call[2 + place:] for wrong in wrongs]


class RefusalCase(unittest.TestCase):
    def refused(self, number, *calls):
        for call in calls:
            found = run(*SETUP, call, *dump(2))
            self.assertEqual(found[len(SETUP)], [number], call)
            self.assertEqual(found[len(SETUP) + 1:], BEFORE, call)

    def wrong_at(self, call, *wrongs):
        """The call's numbers, one after another, are each wrong in all these ways (None: any number will do)."""
        self.assertEqual(len(call), 1 + len(wrongs))
        for place, each in enumerate(wrongs):
            self.refused(-2, *with_one_wrong(call, place, each or ()))

    def taken(self, call):
        """Sure that the call would be taken: so it is the change that's refused."""
        found = run(*SETUP, call)
        self.assertGreaterEqual(found[-1][0], 0, call)
