"""The calls on one new table, laid one behind another in a list, and their answers, laid in a list likewise."""

from ninekinds.calls import (
    begin_table, blank_column, cast_column, choose_columns, classes_of_column, compare_columns, do_columns,
    ends_of_column, get_column, join_columns, keep_rows, more_columns, pick_rows, put_column, rest_column,
    split_column, sum_of_column, tell_table, whole_column,
)
from ninekinds.columns import Table

BEGIN = 0
PUT = 1
GET = 2
CAST = 3
WHOLE = 4
REST = 5
SPLIT = 6
JOIN = 7
DO = 8
MORE = 9
COMPARE = 10
CLASSES = 11
SUM = 12
ENDS = 13
BLANK = 14
CHOOSE = 15
KEEP = 16
PICK = 17

# By the call's number: how many whole numbers it has, ahead of its list.
ARGUMENTS = (1, 2, 3, 4, 4, 4, 3, 3, 4, 4, 4, 1, 1, 1, 2, 4, 1, 0, 0)


def answers(calls):
    table = Table()
    told = []
    at = 0
    while at < len(calls):
        call = calls[at]
        start = at + 1
        at = start + ARGUMENTS[call]
        given = calls[start:at]
        listed = []
        if has_list(call):
            start = at + 1
            at = start + calls[at]
            listed = calls[start:at]
        answer = answer_of(table, call, given, listed)
        told.append(len(answer))
        told.extend(answer)
    return told


def has_list(call):
    return call in (PUT, BLANK, CHOOSE, KEEP, PICK)


def answer_of(table, call, given, listed):
    if call <= GET:
        return answer_of_handing(table, call, given, listed)
    if call <= MORE:
        return answer_of_making(table, call, given)
    if call <= ENDS:
        return answer_of_looking(table, call, given)
    return answer_of_rows(table, call, given, listed)


def answer_of_handing(table, call, given, values):
    if call == BEGIN:
        return begin_table(table, given[0])
    if call == PUT:
        return put_column(table, given[0], given[1], values)
    return get_column(table, given[0], given[1], given[2])


def answer_of_making(table, call, given):
    if call == CAST:
        return cast_column(table, given[0], given[1], given[2], given[3])
    if call == WHOLE:
        return whole_column(table, given[0], given[1], given[2], given[3])
    if call == REST:
        return rest_column(table, given[0], given[1], given[2], given[3])
    if call == SPLIT:
        return split_column(table, given[0], given[1], given[2])
    if call == JOIN:
        return join_columns(table, given[0], given[1], given[2])
    if call == DO:
        return do_columns(table, given[0], given[1], given[2], given[3])
    return more_columns(table, given[0], given[1], given[2], given[3])


def answer_of_looking(table, call, given):
    if call == COMPARE:
        return compare_columns(table, given[0], given[1], given[2], given[3])
    if call == CLASSES:
        return classes_of_column(table, given[0])
    if call == SUM:
        return sum_of_column(table, given[0])
    return ends_of_column(table, given[0])


def answer_of_rows(table, call, given, listed):
    if call == BLANK:
        return blank_column(table, given[0], given[1], listed)
    if call == CHOOSE:
        return choose_columns(table, given[0], given[1], given[2], given[3], listed)
    if call == KEEP:
        return keep_rows(table, given[0], listed)
    if call == PICK:
        return pick_rows(table, listed)
    return tell_table(table)
