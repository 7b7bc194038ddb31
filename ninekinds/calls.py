"""The calls on a table: each gives the list of numbers it answers, a refusal's number alone if it is refused."""

from ninekinds.arithmetic import QUOTIENT, done, is_operation, multiplied_and_added
from ninekinds.broken import is_way
from ninekinds.changes import cast_number, joined, part_number, power_number, rest_number, whole_number
from ninekinds.columns import (
    GREATEST_ROWS, LAST_COLUMN, Column, are_columns, count_missing, is_set, made_of_rows, mask_of, not_missing,
    take_rows,
)
from ninekinds.kinds import is_broken, is_kind
from ninekinds.totals import least_and_greatest, numbers_in_order, words_of_sum
from ninekinds.worth import class_counts, holds, is_comparison

DONE = 0
WRONG_ARGUMENT = -2
NOT_THERE = -3
UNFIT_KINDS = -4
NONE_LEFT = -5

MOST_PARTS = 15
# What told has in the place of a kind.
NO_COLUMN = 4294967295


def are_there(table, taken):
    return all([c in table.columns for c in taken])


def refusal_of_taken(table, taken, only_broken):
    """Whether the taken columns are there, then whether they have one kind, a broken one where that is asked."""
    if not are_there(table, taken):
        return NOT_THERE
    kind = table.columns[taken[0]].kind
    if only_broken and not is_broken(kind):
        return UNFIT_KINDS
    return DONE if all([table.columns[c].kind == kind for c in taken]) else UNFIT_KINDS


def begin_table(table, rows):
    if not 1 <= rows <= GREATEST_ROWS:
        return [WRONG_ARGUMENT]
    table.rows = rows
    table.columns = {}
    return [DONE]


def put_column(table, c, kind, values):
    if not (are_columns([c]) and is_kind(kind) and len(values) == table.rows):
        return [WRONG_ARGUMENT]
    table.columns[c] = Column(kind, list(values))
    return [DONE]


def get_column(table, c, kind, n):
    if not (are_columns([c]) and is_kind(kind) and n == table.rows):
        return [WRONG_ARGUMENT]
    if c not in table.columns:
        return [NOT_THERE]
    if table.columns[c].kind != kind:
        return [UNFIT_KINDS]
    numbers = table.columns[c].numbers
    bits = [0 if x is None else x for x in numbers]
    return [len(numbers) - count_missing(numbers)] + bits + mask_of([x is not None for x in numbers])


def cast_column(table, source, to, kind, way):
    if not (are_columns([source, to]) and is_kind(kind) and is_way(way)):
        return [WRONG_ARGUMENT]
    refused = refusal_of_taken(table, [source], False)
    if refused != DONE:
        return [refused]
    old = table.columns[source].kind
    numbers = made_of_rows(table, [source], lambda given: cast_number(old, kind, way, given[0]))
    table.columns[to] = Column(kind, numbers)
    return [count_missing(numbers)]


def whole_column(table, source, to, way, parts):
    return round_column(table, source, to, way, parts, whole_number)


def rest_column(table, source, to, way, parts):
    return round_column(table, source, to, way, parts, rest_number)


def round_column(table, source, to, way, parts, make):
    if not (are_columns([source, to]) and is_way(way) and 0 <= parts <= MOST_PARTS):
        return [WRONG_ARGUMENT]
    refused = refusal_of_taken(table, [source], True)
    if refused != DONE:
        return [refused]
    kind = table.columns[source].kind
    numbers = made_of_rows(table, [source], lambda given: make(kind, way, parts, given[0]))
    table.columns[to] = Column(kind, numbers)
    return [DONE]


def split_column(table, source, power, part):
    if power == part or not are_columns([source, power, part]):
        return [WRONG_ARGUMENT]
    refused = refusal_of_taken(table, [source], True)
    if refused != DONE:
        return [refused]
    kind = table.columns[source].kind
    # Both are made ahead of the first that is laid down, as that may be where the source lies.
    powers = made_of_rows(table, [source], lambda given: power_number(kind, given[0]))
    parts = made_of_rows(table, [source], lambda given: part_number(kind, given[0]))
    table.columns[power] = Column(kind, powers)
    table.columns[part] = Column(kind, parts)
    return [DONE]


def join_columns(table, part, power, to):
    if not are_columns([part, power, to]):
        return [WRONG_ARGUMENT]
    refused = refusal_of_taken(table, [part, power], True)
    if refused != DONE:
        return [refused]
    kind = table.columns[part].kind
    numbers = made_of_rows(table, [part, power], lambda given: joined(kind, given[0], given[1]))
    table.columns[to] = Column(kind, numbers)
    return [DONE]


def do_columns(table, op, a, b, to):
    if not (is_operation(op) and are_columns([a, b, to])):
        return [WRONG_ARGUMENT]
    refused = refusal_of_taken(table, [a, b], op == QUOTIENT)
    if refused != DONE:
        return [refused]
    kind = table.columns[a].kind
    numbers = made_of_rows(table, [a, b], lambda given: done(kind, op, given[0], given[1]))
    table.columns[to] = Column(kind, numbers)
    return [DONE]


def more_columns(table, a, b, c, to):
    if not are_columns([a, b, c, to]):
        return [WRONG_ARGUMENT]
    refused = refusal_of_taken(table, [a, b, c], True)
    if refused != DONE:
        return [refused]
    kind = table.columns[a].kind
    numbers = made_of_rows(table, [a, b, c], lambda given: multiplied_and_added(kind, given[0], given[1], given[2]))
    table.columns[to] = Column(kind, numbers)
    return [DONE]


def compare_columns(table, op, a, b, n):
    if not (is_comparison(op) and are_columns([a, b]) and n == table.rows):
        return [WRONG_ARGUMENT]
    if not are_there(table, [a, b]):
        return [NOT_THERE]
    kind_a = table.columns[a].kind
    kind_b = table.columns[b].kind
    found = made_of_rows(table, [a, b], lambda given: holds(op, kind_a, given[0], kind_b, given[1]))
    held = [each is True for each in found]
    return [held.count(True)] + mask_of(held)


def refusal_of_one(table, c):
    if not are_columns([c]):
        return WRONG_ARGUMENT
    return DONE if are_there(table, [c]) else NOT_THERE


def classes_of_column(table, c):
    refused = refusal_of_one(table, c)
    if refused != DONE:
        return [refused]
    numbers = table.columns[c].numbers
    there = not_missing(numbers)
    return [len(there), count_missing(numbers)] + class_counts(table.columns[c].kind, there)


def sum_of_column(table, c):
    refused = refusal_of_one(table, c)
    if refused != DONE:
        return [refused]
    there = not_missing(table.columns[c].numbers)
    return [len(there)] + words_of_sum(table.columns[c].kind, there)


def ends_of_column(table, c):
    refused = refusal_of_one(table, c)
    if refused != DONE:
        return [refused]
    kind = table.columns[c].kind
    ordered = numbers_in_order(kind, not_missing(table.columns[c].numbers))
    if len(ordered) == 0:
        return [NONE_LEFT]
    return [len(ordered)] + least_and_greatest(kind, ordered)


def blank_column(table, c, n, mask):
    if not (are_columns([c]) and n == table.rows):
        return [WRONG_ARGUMENT]
    if not are_there(table, [c]):
        return [NOT_THERE]
    old = table.columns[c]
    numbers = [None if is_set(mask, row) else x for row, x in enumerate(old.numbers)]
    table.columns[c] = Column(old.kind, numbers)
    return [count_missing(numbers)]


def choose_columns(table, a, b, n, to, mask):
    if not (are_columns([a, b, to]) and n == table.rows):
        return [WRONG_ARGUMENT]
    refused = refusal_of_taken(table, [a, b], False)
    if refused != DONE:
        return [refused]
    from_a = table.columns[a].numbers
    from_b = table.columns[b].numbers
    # What is no number is not made here but handed on, so it stays as it was.
    numbers = [from_a[row] if is_set(mask, row) else from_b[row] for row in range(table.rows)]
    table.columns[to] = Column(table.columns[a].kind, numbers)
    return [DONE]


def keep_rows(table, n, mask):
    if n != table.rows:
        return [WRONG_ARGUMENT]
    take_rows(table, [row for row in range(table.rows) if is_set(mask, row)])
    return [table.rows]


def pick_rows(table, which):
    if len(which) > GREATEST_ROWS or not all([row < table.rows for row in which]):
        return [WRONG_ARGUMENT]
    take_rows(table, which)
    return [table.rows]


def tell_table(table):
    kinds = [table.columns[c].kind if c in table.columns else NO_COLUMN for c in range(LAST_COLUMN + 1)]
    return [DONE, table.rows] + kinds
