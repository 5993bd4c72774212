"""What all calls share: a store's parts, the refusals, the ranges, and numbers held in so many bits."""

WIDTHS = (8, 16, 32, 64)


# Answered as -2: a column, a set, how or another number is not in its range.
class OutOfRange(Exception):
    pass


# Answered as -3: a column that is read is empty, or does not suit the call.
class Unfit(Exception):
    pass


# Answered as -4: more is found than there is room for.
class TooMany(Exception):
    pass


# A column is never changed once it is made, so that a refusal or a column made of itself needs no copy.
class Column:
    def __init__(self, width, numbers):
        self.width = width
        self.numbers = numbers


# Before it is opened a store has nothing at all: no call but the opening one may be made of it.
class Store:
    def __init__(self):
        self.rows = 0
        self.columns = []
        self.sets = []


# numbers leaves out the call's own number and its store; stores are both, as a call may name another one too;
# end is where the next call begins.
class Call:
    def __init__(self, numbers, given, stores, end):
        self.numbers = numbers
        self.given = given
        self.stores = stores
        self.end = end


def number_at(call, k, low, high):
    number = call.numbers[k]
    if number < low or number > high:
        raise OutOfRange()
    return number


def column_at(call, k):
    return number_at(call, k, 0, 15)


def set_at(call, k):
    return number_at(call, k, 0, 7)


def width_at(call, k):
    if call.numbers[k] not in WIDTHS:
        raise OutOfRange()
    return call.numbers[k]


# How many numbers the list has stands for a number that the words hand in, so it has a range like one.
def check_length(call, low, high):
    if len(call.given) < low or len(call.given) > high:
        raise OutOfRange()


# Every range is to be looked at before this is called: -2 goes ahead of -3.
def full_column(store, c):
    column = store.columns[c]
    if column.width == 0:
        raise Unfit()
    return column


def check_same_width(column, other):
    if column.width != other.width:
        raise Unfit()


def check_width(column, narrowest, widest):
    if column.width < narrowest or column.width > widest:
        raise Unfit()


def check_below(column, limit):
    if max(column.numbers, default=-1) >= limit:
        raise Unfit()


def signed(x, w):
    return x - (1 << w) if x >> (w - 1) else x


def hold(value, w):
    return min(max(value, 0), (1 << w) - 1)


# A column keeps the w bits alone, so what is below 0 comes back from the upper half.
def hold_signed(value, w):
    half = 1 << (w - 1)
    return min(max(value, -half), half - 1) % (1 << w)


def with_signs(numbers, width):
    return [signed(x, width) for x in numbers]


# The order asked for is the rising order of what this gives, whichever way and with or without a sign.
def made_rising(column, downwards, has_sign):
    numbers = with_signs(column.numbers, column.width) if has_sign else column.numbers
    return [-x for x in numbers] if downwards else numbers


def rows_in(chosen):
    return [i for i, inside in enumerate(chosen) if inside]


def numbers_in(numbers, chosen):
    return [x for x, inside in zip(numbers, chosen) if inside]
