"""How much, how far: sum, least, apart, nearest and dot."""

from sidecolumns.common import Unfit
from sidecolumns.common import check_width
from sidecolumns.common import column_at
from sidecolumns.common import full_column
from sidecolumns.common import hold_signed
from sidecolumns.common import made_rising
from sidecolumns.common import number_at
from sidecolumns.common import numbers_in
from sidecolumns.common import rows_in
from sidecolumns.common import set_at
from sidecolumns.common import signed
from sidecolumns.common import with_signs


def answer_sum(store, call):
    c = column_at(call, 0)
    a = set_at(call, 1)
    how = number_at(call, 2, 0, 1)
    column = full_column(store, c)
    numbers = numbers_in(column.numbers, store.sets[a])
    total = sum(with_signs(numbers, column.width)) if how == 1 else sum(numbers)
    total = total % (1 << 128)
    return [len(numbers), total % 2 ** 64, total >> 64]


def answer_least(store, call):
    c = column_at(call, 0)
    a = set_at(call, 1)
    how = number_at(call, 2, 0, 3)
    column = full_column(store, c)
    rows = rows_in(store.sets[a])
    if not rows:
        return [-1]
    numbers = numbers_in(made_rising(column, how % 2 == 1, how > 1), store.sets[a])
    return [rows[numbers.index(min(numbers))]]


def distances(xs, ys):
    return [abs(x - y) for x, y in zip(xs, ys)]


# What stands last may be fewer than size: rows that are not there count nothing.
def sums_of_parts(numbers, size):
    return [sum(numbers[at:at + size]) for at in range(0, len(numbers), size)]


def answer_apart(store, call):
    c = column_at(call, 0)
    e = column_at(call, 1)
    column = full_column(store, c)
    other = full_column(store, e)
    check_width(column, 8, 8)
    check_width(other, 8, 8)
    sums = sums_of_parts(distances(column.numbers, other.numbers), 8)
    return [len(sums)] + sums


def answer_nearest(store, call):
    c = column_at(call, 0)
    column = full_column(store, c)
    check_width(column, 8, 8)
    if store.rows < 4:
        raise Unfit()
    far = [sum(distances(column.numbers[i:i + 4], call.given)) for i in range(store.rows - 3)]
    return [far.index(min(far))]


def byte_product(x, y):
    return x * signed(y, 8)


def signed_product(x, y):
    return signed(x, 16) * signed(y, 16)


def product_of_52_bits(x, y):
    return (x % 2 ** 52) * (y % 2 ** 52)


def lower_52_bits(x, y):
    return product_of_52_bits(x, y) % 2 ** 52


def upper_52_bits(x, y):
    return product_of_52_bits(x, y) >> 52


def wrapped_32(parts):
    return sum(parts) % 2 ** 32


def held_32(parts):
    total = 0
    for part in parts:
        total = hold_signed(signed(total, 32) + part, 32)
    return total


def wrapped_64(parts):
    return sum(parts) % 2 ** 64


# By how: the width of both columns, one product, how many of them are taken together, how many sums there are,
# and how a sum takes its parts.
DOTS = (
    (8, byte_product, 4, 16, wrapped_32),
    (8, byte_product, 4, 16, held_32),
    (16, signed_product, 2, 16, wrapped_32),
    (16, signed_product, 2, 16, held_32),
    (64, lower_52_bits, 1, 8, wrapped_64),
    (64, upper_52_bits, 1, 8, wrapped_64),
)


def answer_dot(store, call):
    c = column_at(call, 0)
    e = column_at(call, 1)
    work = DOTS[number_at(call, 2, 0, 5)]
    column = full_column(store, c)
    other = full_column(store, e)
    check_width(column, work[0], work[0])
    check_width(other, work[0], work[0])
    product = work[1]
    count = work[3]
    total = work[4]
    parts = sums_of_parts([product(x, y) for x, y in zip(column.numbers, other.numbers)], work[2])
    return [count] + [total(parts[i::count]) for i in range(count)]


# By a call's number: what answers it, how many numbers it has behind its store, whether a list stands last.
MEASURED = {
    19: (answer_sum, 3, False),
    20: (answer_least, 3, False),
    21: (answer_apart, 2, False),
    22: (answer_nearest, 1, True),
    23: (answer_dot, 3, False),
}
