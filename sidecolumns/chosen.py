"""Rows chosen: where, match, bits, among, logic, count and find.

A set is a list with 1 for each row that is in it, else 0.
"""

from sidecolumns.common import check_length
from sidecolumns.common import check_same_width
from sidecolumns.common import check_width
from sidecolumns.common import column_at
from sidecolumns.common import full_column
from sidecolumns.common import number_at
from sidecolumns.common import set_at
from sidecolumns.common import with_signs


def is_same(x, y):
    return x == y


def is_other(x, y):
    return x != y


def is_less(x, y):
    return x < y


def is_less_or_same(x, y):
    return x <= y


def is_greater(x, y):
    return x > y


def is_greater_or_same(x, y):
    return x >= y


def shares_a_bit(x, mask):
    return x & mask != 0


def shares_no_bit(x, mask):
    return x & mask == 0


def has_all_bits(x, mask):
    return x & mask == mask


STANDINGS = (is_same, is_other, is_less, is_less_or_same, is_greater, is_greater_or_same)
BIT_STANDINGS = (shares_a_bit, shares_no_bit, has_all_bits)


def rows_where(stands, xs, ys):
    return [1 if stands(x, y) else 0 for x, y in zip(xs, ys)]


# 6 to 9 are 2 to 5 over again, of numbers with a sign.
def rows_standing(how, width, xs, ys):
    if how > 5:
        return rows_where(STANDINGS[how - 4], with_signs(xs, width), with_signs(ys, width))
    return rows_where(STANDINGS[how], xs, ys)


def put_set(store, x, rows):
    store.sets[x] = rows
    return [sum(rows)]


def answer_where(store, call):
    x = set_at(call, 0)
    c = column_at(call, 1)
    how = number_at(call, 2, 0, 9)
    column = full_column(store, c)
    value = call.numbers[3] % (1 << column.width)
    return put_set(store, x, rows_standing(how, column.width, column.numbers, [value] * store.rows))


def answer_match(store, call):
    x = set_at(call, 0)
    c = column_at(call, 1)
    e = column_at(call, 2)
    how = number_at(call, 3, 0, 9)
    column = full_column(store, c)
    other = full_column(store, e)
    check_same_width(column, other)
    return put_set(store, x, rows_standing(how, column.width, column.numbers, other.numbers))


def answer_bits(store, call):
    x = set_at(call, 0)
    c = column_at(call, 1)
    how = number_at(call, 2, 0, 2)
    column = full_column(store, c)
    mask = call.numbers[3] % (1 << column.width)
    return put_set(store, x, rows_where(BIT_STANDINGS[how], column.numbers, [mask] * store.rows))


# Bounds are taken as they are, not modulo 2^width: the document says that of value and mask alone.
def is_within(number, bounds):
    for i in range(0, len(bounds), 2):
        if bounds[i] <= number and number <= bounds[i + 1]:
            return 1
    return 0


def answer_among(store, call):
    x = set_at(call, 0)
    c = column_at(call, 1)
    number_at(call, 2, 1, 16)
    column = full_column(store, c)
    return put_set(store, x, [is_within(number, call.given) for number in column.numbers])


def answer_logic(store, call):
    x = set_at(call, 0)
    a = store.sets[set_at(call, 1)]
    b = store.sets[set_at(call, 2)]
    c = store.sets[set_at(call, 3)]
    table = number_at(call, 4, 0, 255)
    return put_set(store, x, [(table >> (4 * a[i] + 2 * b[i] + c[i])) % 2 for i in range(store.rows)])


def answer_count(store, call):
    a = set_at(call, 0)
    return [sum(store.sets[a])]


def answer_find(store, call):
    c = column_at(call, 0)
    check_length(call, 1, 16)
    column = full_column(store, c)
    check_width(column, 8, 8)
    length = len(call.given)
    for i in range(store.rows - length + 1):
        if column.numbers[i:i + length] == call.given:
            return [i]
    return [-1]


# By a call's number: what answers it, how many numbers it has behind its store, whether a list stands last.
CHOSEN = {
    4: (answer_where, 4, False),
    5: (answer_match, 4, False),
    6: (answer_bits, 4, False),
    7: (answer_among, 3, True),
    8: (answer_logic, 5, False),
    9: (answer_count, 1, False),
    10: (answer_find, 1, True),
}
