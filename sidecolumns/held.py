"""Held and packed: the opening of a store, load, save and tell."""

from sidecolumns.common import Column
from sidecolumns.common import OutOfRange
from sidecolumns.common import Unfit
from sidecolumns.common import column_at
from sidecolumns.common import full_column
from sidecolumns.common import number_at
from sidecolumns.common import width_at


def packed_size(rows, bits):
    return (rows * bits + 7) // 8


# The last byte may have bits over for more numbers than there are rows, so rows ends the inner loop too.
def unpacked(given, bits, rows):
    numbers = []
    pool = 0
    filled = 0
    for byte in given:
        pool = pool | (byte << filled)
        filled = filled + 8
        while filled >= bits and len(numbers) < rows:
            numbers.append(pool % (1 << bits))
            pool = pool >> bits
            filled = filled - bits
    return numbers


def packed(numbers, bits):
    given = []
    pool = 0
    filled = 0
    for number in numbers:
        pool = pool | (number << filled)
        filled = filled + bits
        while filled >= 8:
            given.append(pool % 256)
            pool = pool >> 8
            filled = filled - 8
    if filled > 0:
        given.append(pool)
    return given


def answer_opening(store, call):
    rows = number_at(call, 0, 0, 4096)
    store.rows = rows
    store.columns = [Column(0, []) for c in range(16)]
    store.sets = [[0] * rows for x in range(8)]
    return [0]


def answer_load(store, call):
    c = column_at(call, 0)
    width = width_at(call, 1)
    bits = number_at(call, 2, 1, width)
    if len(call.given) != packed_size(store.rows, bits):
        raise OutOfRange()
    store.columns[c] = Column(width, unpacked(call.given, bits, store.rows))
    return [0]


def answer_save(store, call):
    c = column_at(call, 0)
    bits = number_at(call, 1, 1, 64)
    column = full_column(store, c)
    if max(column.numbers, default=0) >> bits > 0:
        raise Unfit()
    given = packed(column.numbers, bits)
    return [len(given)] + given


def answer_tell(store, call):
    c = column_at(call, 0)
    return [store.columns[c].width]


# By a call's number: what answers it, how many numbers it has behind its store, whether a list stands last.
HELD = {
    0: (answer_opening, 1, False),
    1: (answer_load, 3, True),
    2: (answer_save, 2, False),
    3: (answer_tell, 1, False),
}
