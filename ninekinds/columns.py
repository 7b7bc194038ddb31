"""The table: its rows, and the columns that are there."""

LAST_COLUMN = 15
GREATEST_ROWS = 2048


class Column:
    """A kind, and of each row the number's bits, or None where it is missing. Its numbers are never changed."""

    def __init__(self, kind, numbers):
        self.kind = kind
        self.numbers = numbers


class Table:
    """How many rows there are, and by its number each column that is there."""

    def __init__(self):
        self.rows = 0
        self.columns = {}


def are_columns(numbers):
    return all([0 <= c <= LAST_COLUMN for c in numbers])


def made_of_rows(table, taken, make):
    """The numbers that make gives for the rows of the taken columns; missing where one of a row's numbers is."""
    columns = [table.columns[c].numbers for c in taken]
    numbers = []
    for row in range(table.rows):
        given = [column[row] for column in columns]
        numbers.append(None if None in given else make(given))
    return numbers


def take_rows(table, which):
    """Lets the table have these of its rows alone, in this order, one as often as it is named."""
    columns = {}
    for c in table.columns:
        old = table.columns[c]
        columns[c] = Column(old.kind, [old.numbers[row] for row in which])
    table.columns = columns
    table.rows = len(which)


def count_missing(numbers):
    return len([x for x in numbers if x is None])


def not_missing(numbers):
    return [x for x in numbers if x is not None]


def is_set(mask, row):
    return (mask[row // 8] >> (row % 8)) % 2 == 1


def mask_of(holds):
    """Eight rows a byte, the first at the lowest bit."""
    mask = [0] * ((len(holds) + 7) // 8)
    for row, held in enumerate(holds):
        if held:
            mask[row // 8] += 1 << (row % 8)
    return mask
