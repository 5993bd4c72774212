"""Rows moved: pick, place, lookup, gather, scatter, sort and code."""

from sidecolumns.common import Column
from sidecolumns.common import OutOfRange
from sidecolumns.common import Unfit
from sidecolumns.common import check_below
from sidecolumns.common import check_length
from sidecolumns.common import check_same_width
from sidecolumns.common import check_width
from sidecolumns.common import column_at
from sidecolumns.common import full_column
from sidecolumns.common import made_rising
from sidecolumns.common import numbers_in
from sidecolumns.common import rows_in
from sidecolumns.common import set_at
from sidecolumns.common import width_at


def answer_pick(store, call):
    d = column_at(call, 0)
    c = column_at(call, 1)
    a = set_at(call, 2)
    column = full_column(store, c)
    picked = numbers_in(column.numbers, store.sets[a])
    store.columns[d] = Column(column.width, picked + [0] * (store.rows - len(picked)))
    return [len(picked)]


# A list of its own: the column itself may be one of those that are read meanwhile.
def numbers_that_stay(store, d, column):
    if store.columns[d].width == 0:
        return [0] * store.rows
    check_same_width(store.columns[d], column)
    return list(store.columns[d].numbers)


def put_into(store, d, column, rows):
    numbers = numbers_that_stay(store, d, column)
    for row, number in zip(rows, column.numbers):
        numbers[row] = number
    store.columns[d] = Column(column.width, numbers)


def answer_place(store, call):
    d = column_at(call, 0)
    c = column_at(call, 1)
    a = set_at(call, 2)
    column = full_column(store, c)
    rows = rows_in(store.sets[a])
    put_into(store, d, column, rows)
    return [len(rows)]


def answer_lookup(store, call):
    d = column_at(call, 0)
    c = column_at(call, 1)
    width = width_at(call, 2)
    check_length(call, 1, 4096)
    column = full_column(store, c)
    check_below(column, len(call.given))
    store.columns[d] = Column(width, [call.given[x] for x in column.numbers])
    return [0]


def row_numbers(store, p):
    column = full_column(store, p)
    check_width(column, 16, 16)
    check_below(column, store.rows)
    return column.numbers


def answer_gather(store, call):
    d = column_at(call, 0)
    c = column_at(call, 1)
    p = column_at(call, 2)
    column = full_column(store, c)
    rows = row_numbers(store, p)
    store.columns[d] = Column(column.width, [column.numbers[row] for row in rows])
    return [0]


def answer_scatter(store, call):
    d = column_at(call, 0)
    c = column_at(call, 1)
    p = column_at(call, 2)
    column = full_column(store, c)
    put_into(store, d, column, row_numbers(store, p))
    return [0]


def check_keys(keys):
    for key in keys:
        if key < 0 or key > 63:
            raise OutOfRange()


def numbers_by_key(store, key):
    return made_rising(full_column(store, key % 16), key // 16 % 2 == 1, key // 32 == 1)


# The row stands last, so that rows alike in all keys stay as they were.
def sort_entry(ranks, row):
    return [numbers[row] for numbers in ranks] + [row]


def answer_sort(store, call):
    p = column_at(call, 0)
    a = set_at(call, 1)
    check_length(call, 1, 16)
    check_keys(call.given)
    ranks = [numbers_by_key(store, key) for key in call.given]
    entries = sorted([sort_entry(ranks, row) for row in rows_in(store.sets[a])])
    others = [row for row, inside in enumerate(store.sets[a]) if not inside]
    store.columns[p] = Column(16, [entry[-1] for entry in entries] + others)
    return [0]


def places_of(numbers):
    places = {}
    for place, number in enumerate(numbers):
        places[number] = place
    return places


def answer_code(store, call):
    d = column_at(call, 0)
    c = column_at(call, 1)
    column = full_column(store, c)
    numbers = sorted(set(column.numbers))
    if len(numbers) > 256:
        raise Unfit()
    places = places_of(numbers)
    store.columns[d] = Column(8, [places[x] for x in column.numbers])
    return [len(numbers)] + numbers


# By a call's number: what answers it, how many numbers it has behind its store, whether a list stands last.
MOVED = {
    24: (answer_pick, 3, False),
    25: (answer_place, 3, False),
    26: (answer_lookup, 3, True),
    27: (answer_gather, 3, False),
    28: (answer_scatter, 3, False),
    29: (answer_sort, 2, True),
    30: (answer_code, 2, False),
}
