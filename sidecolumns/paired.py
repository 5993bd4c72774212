"""Columns made of two columns, number by number: mix, shift and neighbours.

x and y are the two numbers, w the bits of both and of what is made.
"""

from sidecolumns.common import Column
from sidecolumns.common import check_same_width
from sidecolumns.common import check_width
from sidecolumns.common import column_at
from sidecolumns.common import full_column
from sidecolumns.common import hold
from sidecolumns.common import hold_signed
from sidecolumns.common import number_at
from sidecolumns.common import signed


def plus(x, y, w):
    return (x + y) % (1 << w)


def minus(x, y, w):
    return (x - y) % (1 << w)


def times(x, y, w):
    return (x * y) % (1 << w)


def greater(x, y, w):
    return max(x, y)


def lesser(x, y, w):
    return min(x, y)


def signed_greater(x, y, w):
    return x if signed(x, w) > signed(y, w) else y


def signed_lesser(x, y, w):
    return x if signed(x, w) < signed(y, w) else y


def distance(x, y, w):
    return abs(x - y)


def plus_held(x, y, w):
    return hold(x + y, w)


def minus_held(x, y, w):
    return hold(x - y, w)


def signed_plus_held(x, y, w):
    return hold_signed(signed(x, w) + signed(y, w), w)


def signed_minus_held(x, y, w):
    return hold_signed(signed(x, w) - signed(y, w), w)


def middle(x, y, w):
    return (x + y + 1) // 2


def upper_product(x, y, w):
    return (x * y) >> w


def signed_upper_product(x, y, w):
    return ((signed(x, w) * signed(y, w)) >> w) % (1 << w)


def rounded_product(x, y, w):
    return ((signed(x, w) * signed(y, w) + 2 ** 14) >> 15) % (1 << w)


def by_sign(x, y, w):
    if y == 0:
        return 0
    return x if signed(y, w) > 0 else -x % (1 << w)


def bits_of_both(x, y, w):
    return x & y


def bits_of_either(x, y, w):
    return x | y


def bits_of_one_alone(x, y, w):
    return x ^ y


def bits_without(x, y, w):
    return x & ~y


def lower_product(x, y, w):
    return (x % 2 ** 32) * (y % 2 ** 32)


def signed_lower_product(x, y, w):
    return (signed(x % 2 ** 32, 32) * signed(y % 2 ** 32, 32)) % (1 << w)


# By how: what is done, and the narrowest and the widest column that it is for.
MIXES = (
    (plus, 8, 64),
    (minus, 8, 64),
    (times, 8, 64),
    (greater, 8, 64),
    (lesser, 8, 64),
    (signed_greater, 8, 64),
    (signed_lesser, 8, 64),
    (distance, 8, 64),
    (plus_held, 8, 16),
    (minus_held, 8, 16),
    (signed_plus_held, 8, 16),
    (signed_minus_held, 8, 16),
    (middle, 8, 16),
    (upper_product, 16, 16),
    (signed_upper_product, 16, 16),
    (rounded_product, 16, 16),
    (by_sign, 8, 32),
    (bits_of_both, 8, 64),
    (bits_of_either, 8, 64),
    (bits_of_one_alone, 8, 64),
    (bits_without, 8, 64),
    (lower_product, 64, 64),
    (signed_lower_product, 64, 64),
)


# y may be near 2^64: shifting so far up at once would need more memory than there is.
def shifted_up(x, y, w):
    return (x << min(y, w)) % (1 << w)


def shifted_down(x, y, w):
    return x >> min(y, w)


def shifted_down_signed(x, y, w):
    return (signed(x, w) >> min(y, w)) % (1 << w)


def turned_up(x, y, w):
    k = y % w
    return (x << k) % (1 << w) | (x >> (w - k))


def turned_down(x, y, w):
    return turned_up(x, w - y % w, w)


SHIFTS = (
    (shifted_up, 8, 64),
    (shifted_down, 8, 64),
    (shifted_down_signed, 8, 64),
    (turned_up, 8, 64),
    (turned_down, 8, 64),
)

NEIGHBOURS = (
    (plus, 16, 32),
    (minus, 16, 32),
    (signed_plus_held, 16, 16),
    (signed_minus_held, 16, 16),
)


def row_by_row(xs, ys):
    return list(zip(xs, ys))


def side_by_side(xs, ys):
    line = xs + ys
    return list(zip(line[0::2], line[1::2]))


def make_of_two(store, call, works, pairs):
    d = column_at(call, 0)
    c = column_at(call, 1)
    e = column_at(call, 2)
    work = works[number_at(call, 3, 0, len(works) - 1)]
    column = full_column(store, c)
    other = full_column(store, e)
    check_same_width(column, other)
    check_width(column, work[1], work[2])
    make = work[0]
    w = column.width
    store.columns[d] = Column(w, [make(x, y, w) for x, y in pairs(column.numbers, other.numbers)])
    return [0]


def answer_mix(store, call):
    return make_of_two(store, call, MIXES, row_by_row)


def answer_shift(store, call):
    return make_of_two(store, call, SHIFTS, row_by_row)


def answer_neighbours(store, call):
    return make_of_two(store, call, NEIGHBOURS, side_by_side)


# By a call's number: what answers it, how many numbers it has behind its store, whether a list stands last.
PAIRED = {
    11: (answer_mix, 4, False),
    13: (answer_shift, 4, False),
    16: (answer_neighbours, 4, False),
}
