"""The calls on one new table, laid one behind another in a list, and their answers, laid in a list likewise."""

from ninekinds.calls import (
    begin_table, cast_column, do_columns, get_column, join_columns, more_columns, put_column, rest_column,
    split_column, whole_column,
)
from ninekinds.columns import Table

BEGIN = 0
PUT = 1
GET = 2
CAST = 3
WHOLE = 4
REST = 5
SPLIT = 6
JOIN = 7
DO = 8
MORE = 9

# By the call's number: how many whole numbers it has, ahead of its list.
ARGUMENTS = (1, 2, 3, 4, 4, 4, 3, 3, 4, 4)


def answers(calls):
    table = Table()
    told = []
    at = 0
    while at < len(calls):
        call = calls[at]
        start = at + 1
        at = start + ARGUMENTS[call]
        given = calls[start:at]
        values = []
        if call == PUT:
            start = at + 1
            at = start + calls[at]
            values = calls[start:at]
        answer = answer_of(table, call, given, values)
        told.append(len(answer))
        told.extend(answer)
    return told


def answer_of(table, call, given, values):
    if call == BEGIN:
        return begin_table(table, given[0])
    if call == PUT:
        return put_column(table, given[0], given[1], values)
    if call == GET:
        return get_column(table, given[0], given[1], given[2])
    if call == CAST:
        return cast_column(table, given[0], given[1], given[2], given[3])
    if call == WHOLE:
        return whole_column(table, given[0], given[1], given[2], given[3])
    if call == REST:
        return rest_column(table, given[0], given[1], given[2], given[3])
    if call == SPLIT:
        return split_column(table, given[0], given[1], given[2])
    if call == JOIN:
        return join_columns(table, given[0], given[1], given[2])
    if call == DO:
        return do_columns(table, given[0], given[1], given[2], given[3])
    return more_columns(table, given[0], given[1], given[2], given[3])
