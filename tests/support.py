"""What the tests share: lines of calls, their answers one by one, and numbers of the broken kinds."""

import random
import struct

from ninekinds.table import answers

BITS = (16, 16, 32, 32, 64, 64, 16, 32, 64)
WHOLE_KINDS = (0, 1, 2, 3, 4, 5)
BROKEN_KINDS = (6, 7, 8)
WAYS = (0, 1, 2, 3)
LETTERS = {6: ("<e", "<H"), 7: ("<f", "<I"), 8: ("<d", "<Q")}
PLAIN = {6: 0x7E00, 7: 0x7FC00000, 8: 0x7FF8000000000000}
INFINITY = {6: 0x7C00, 7: 0x7F800000, 8: 0x7FF0000000000000}
MINUS = {6: 0x8000, 7: 0x80000000, 8: 0x8000000000000000}
HIDDEN = {6: 10, 7: 23, 8: 52}


def bits(kind, number):
    """The bits of a number that the kind has (floats for broken kinds, whole numbers else)."""
    if kind < 6:
        return number % (1 << BITS[kind])
    packed = struct.pack(LETTERS[kind][0], number)
    back = struct.unpack(LETTERS[kind][0], packed)[0]
    if back != number:
        raise AssertionError(f"kind {kind} hasn't {number!r}")
    return struct.unpack(LETTERS[kind][1], packed)[0]


def floated(kind, pattern):
    return struct.unpack(LETTERS[kind][0], struct.pack(LETTERS[kind][1], pattern))[0]


def split_answers(flat):
    found = []
    at = 0
    while at < len(flat):
        found.append(flat[at + 1:at + 1 + flat[at]])
        at += 1 + flat[at]
    if at != len(flat):
        raise AssertionError("an answer is cut off")
    return found


def run(*calls):
    """Each call is a list of numbers; the answers come back one list a call."""
    return split_answers(answers([number for call in calls for number in call]))


def begin(rows):
    return [0, rows]


def put(c, kind, values):
    return [1, c, kind, len(values)] + list(values)


def get(c, kind, n):
    return [2, c, kind, n]


def cast(source, to, kind, way):
    return [3, source, to, kind, way]


def whole(source, to, way, parts):
    return [4, source, to, way, parts]


def rest(source, to, way, parts):
    return [5, source, to, way, parts]


def split(source, power, part):
    return [6, source, power, part]


def join(part, power, to):
    return [7, part, power, to]


def do(op, a, b, to):
    return [8, op, a, b, to]


def more(a, b, c, to):
    return [9, a, b, c, to]


def compare(op, a, b, n):
    return [10, op, a, b, n]


def classes(c):
    return [11, c]


def total(c):
    return [12, c]


def ends(c):
    return [13, c]


def blank(c, n, mask):
    return [14, c, n, len(mask)] + list(mask)


def choose(a, b, n, to, mask):
    return [15, a, b, n, to, len(mask)] + list(mask)


def keep(n, mask):
    return [16, n, len(mask)] + list(mask)


def pick(which):
    return [17, len(which)] + list(which)


def told():
    return [18]


def told_kinds(rows, kinds):
    """What told answers of a table with these rows and, by their numbers, these columns' kinds."""
    return [0, rows] + [kinds.get(c, 4294967295) for c in range(16)]


def bytes_of(held):
    """The mask that has a 1 in the rows in which held is true."""
    return mask_of([True if each else None for each in held])


def mask_of(numbers):
    mask = [0] * ((len(numbers) + 7) // 8)
    for i, number in enumerate(numbers):
        if number is not None:
            mask[i // 8] |= 1 << (i % 8)
    return mask


def told_by_get(numbers):
    """What get answers of a column that has these numbers, None where one is missing."""
    there = [number for number in numbers if number is not None]
    return [len(there)] + [number or 0 for number in numbers] + mask_of(numbers)


def read(answer):
    """The numbers that get told, None where one is missing."""
    rows = 0
    while 1 + rows + (rows + 7) // 8 < len(answer):
        rows += 1
    numbers = answer[1:1 + rows]
    mask = answer[1 + rows:]
    return [n if mask[i // 8] >> (i % 8) & 1 else None for i, n in enumerate(numbers)]


def made(columns, call, to, kind):
    """The answer of the call, and the column it made: columns are (kind, values), put at 0, 1, 2 .."""
    rows = len(columns[0][1])
    puts = [put(c, column[0], column[1]) for c, column in enumerate(columns)]
    found = run(begin(rows), *puts, call, get(to, kind, rows))
    return found[-2], read(found[-1])


def dump(rows):
    """Calls that together tell all that the table is."""
    return [told()] + [get(c, kind, rows) for c in range(16) for kind in range(9)]


def whole_edges(kind):
    """Numbers of a whole kind by their bits, about 0 and about the least and the greatest."""
    top = 1 << (BITS[kind] - 1)
    return [0, 1, 2, 3, 10, top - 2, top - 1, top, top + 1, 2 * top - 2, 2 * top - 1]


def all_edges(kind):
    return whole_edges(kind) if kind < 6 else edges(kind)


def edges(kind):
    """Numbers of a broken kind by their bits, of each sort that the document names."""
    one = bits(kind, 1.0)
    step = 1 << HIDDEN[kind]
    sizes = [0, 1, 2, 3, step // 2, step - 1, step, step + 1, 2 * step, one - step, one - 1, one, one + 1,
             bits(kind, 1.5), bits(kind, 2.0), bits(kind, 2.5), bits(kind, 3.5), bits(kind, 0.75), bits(kind, 10.0),
             bits(kind, 1000.0) + 1, INFINITY[kind] - 2, INFINITY[kind] - 1, INFINITY[kind], INFINITY[kind] + 1,
             PLAIN[kind], PLAIN[kind] + 1, MINUS[kind] - 1]
    return sizes + [size + MINUS[kind] for size in sizes]


def scattered(kind, count, seed):
    """Bits all over the kind: every other one evenly, every other one near 1, where sums and rounding meet."""
    source = random.Random(seed)
    found = []
    for i in range(count):
        pattern = source.getrandbits(BITS[kind])
        if i % 2 and kind >= 6:
            step = 1 << HIDDEN[kind]
            power = source.randrange(-14, 15)
            pattern = bits(kind, 1.0) + power * step + pattern % step + MINUS[kind] * source.getrandbits(1)
        found.append(pattern)
    return found
