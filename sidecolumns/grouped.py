"""Grouped, joined: group and join."""

from sidecolumns.common import TooMany
from sidecolumns.common import check_below
from sidecolumns.common import column_at
from sidecolumns.common import full_column
from sidecolumns.common import number_at


def answer_group(store, call):
    k = column_at(call, 0)
    c = column_at(call, 1)
    m = number_at(call, 2, 1, 4096)
    keys = full_column(store, k)
    column = full_column(store, c)
    check_below(keys, m)
    totals = [0] * m
    for key, number in zip(keys.numbers, column.numbers):
        totals[key] = (totals[key] + number) % 2 ** 64
    return [len(set(keys.numbers))] + totals


def rows_by_number(column):
    rows = {}
    for row, number in enumerate(column.numbers):
        rows.setdefault(number, []).append(row)
    return rows


# Counted before they are written: there may be millions of pairs where there is room for none.
def check_room(column, matches, room):
    if sum([len(matches.get(number, [])) for number in column.numbers]) > room:
        raise TooMany()


def pairs_of(column, matches):
    pairs = []
    for row, number in enumerate(column.numbers):
        for partner in matches.get(number, []):
            pairs.append(row)
            pairs.append(partner)
    return pairs


def answer_join(store, call):
    c = column_at(call, 0)
    e = column_at(call, 2)
    room = number_at(call, 3, 0, 65536)
    column = full_column(store, c)
    matches = rows_by_number(full_column(call.stores[call.numbers[1]], e))
    check_room(column, matches, room)
    pairs = pairs_of(column, matches)
    return [len(pairs) // 2] + pairs


# By a call's number: what answers it, how many numbers it has behind its store, whether a list stands last.
GROUPED = {
    31: (answer_group, 3, False),
    32: (answer_join, 4, False),
}
