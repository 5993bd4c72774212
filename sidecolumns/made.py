"""Columns made of columns by other ways than pair by pair: one, funnel, width, blend and slide."""

from sidecolumns.common import Column
from sidecolumns.common import check_same_width
from sidecolumns.common import check_width
from sidecolumns.common import column_at
from sidecolumns.common import full_column
from sidecolumns.common import hold
from sidecolumns.common import hold_signed
from sidecolumns.common import number_at
from sidecolumns.common import set_at
from sidecolumns.common import signed
from sidecolumns.common import width_at

ONES_OF_FOUR_BITS = (0, 1, 1, 2, 1, 2, 2, 3, 1, 2, 2, 3, 2, 3, 3, 4)


def from_zero(x, w):
    return abs(signed(x, w))


def leading_zeros(x, w):
    return w - x.bit_length()


# Four bits at a time: long columns are counted a good deal sooner so than bit by bit.
def how_many_ones(x, w):
    ones = 0
    while x > 0:
        ones = ones + ONES_OF_FOUR_BITS[x % 16]
        x = x >> 4
    return ones


def in_opposite_order(x, w):
    turned = 0
    for place in range(w):
        turned = turned * 2 + (x >> place) % 2
    return turned


def lowest_one(x, w):
    return x & -x


# Of 0 this is -1 modulo 2^w: all w bits, as asked.
def up_to_lowest_one(x, w):
    return (x ^ (x - 1)) % (1 << w)


# By how: what is done, and the narrowest and the widest column that it is for.
ONES = (
    (from_zero, 8, 64),
    (leading_zeros, 32, 64),
    (how_many_ones, 8, 64),
    (in_opposite_order, 8, 8),
    (lowest_one, 8, 64),
    (up_to_lowest_one, 8, 64),
)


def answer_one(store, call):
    d = column_at(call, 0)
    c = column_at(call, 1)
    work = ONES[number_at(call, 2, 0, 5)]
    column = full_column(store, c)
    check_width(column, work[1], work[2])
    make = work[0]
    store.columns[d] = Column(column.width, [make(x, column.width) for x in column.numbers])
    return [0]


def funnel_up(x, y, k, w):
    return (((x << w | y) << k) >> w) % (1 << w)


def funnel_down(x, y, k, w):
    return ((x << w | y) >> k) % (1 << w)


FUNNELS = (funnel_up, funnel_down)


def answer_funnel(store, call):
    d = column_at(call, 0)
    c = column_at(call, 1)
    e = column_at(call, 2)
    f = column_at(call, 3)
    make = FUNNELS[number_at(call, 4, 0, 1)]
    upper = full_column(store, c)
    lower = full_column(store, e)
    places = full_column(store, f)
    check_same_width(upper, lower)
    check_same_width(upper, places)
    check_width(upper, 16, 64)
    w = upper.width
    numbers = [make(x, y, k % w, w) for x, y, k in zip(upper.numbers, lower.numbers, places.numbers)]
    store.columns[d] = Column(w, numbers)
    return [0]


def modulo(x, w, width):
    return x % (1 << width)


def signed_held_signed(x, w, width):
    return hold_signed(signed(x, w), width)


def plain_held(x, w, width):
    return hold(x, width)


def signed_plain_held(x, w, width):
    return hold(signed(x, w), width)


FITS = (modulo, signed_held_signed, plain_held, signed_plain_held)


def answer_width(store, call):
    d = column_at(call, 0)
    c = column_at(call, 1)
    width = width_at(call, 2)
    make = FITS[number_at(call, 3, 0, 3)]
    column = full_column(store, c)
    store.columns[d] = Column(width, [make(x, column.width, width) for x in column.numbers])
    return [0]


def answer_blend(store, call):
    d = column_at(call, 0)
    c = column_at(call, 1)
    e = column_at(call, 2)
    a = set_at(call, 3)
    column = full_column(store, c)
    other = full_column(store, e)
    check_same_width(column, other)
    numbers = [y if inside else x for x, y, inside in zip(column.numbers, other.numbers, store.sets[a])]
    store.columns[d] = Column(column.width, numbers)
    return [0]


def answer_slide(store, call):
    d = column_at(call, 0)
    c = column_at(call, 1)
    e = column_at(call, 2)
    k = number_at(call, 3, 0, store.rows)
    column = full_column(store, c)
    other = full_column(store, e)
    check_same_width(column, other)
    store.columns[d] = Column(column.width, column.numbers[k:] + other.numbers[:k])
    return [0]


# By a call's number: what answers it, how many numbers it has behind its store, whether a list stands last.
MADE = {
    12: (answer_one, 3, False),
    14: (answer_funnel, 5, False),
    15: (answer_width, 4, False),
    17: (answer_blend, 4, False),
    18: (answer_slide, 4, False),
}
