"""The row that begins "All:": -2, then -3 (then -4), and nothing is changed below 0."""

import unittest

from tests.line import FAR_OUT, NUMBERS, WIDTHS, call, column, last, whole_store

ROWS = 4
# Columns 0 and 1 have 8 bits, 2 and 3 have 16, 4 and 5 have 32, 6 and 7 have 64; 10 has the rows' numbers in another
# order, in 16; the others are empty.
BEFORE = [call("open", 1, 2), column(1, 0, 16, [5, 70]), call("where", 1, 3, 0, 0, 70), call("open", 0, ROWS)]
for number, wide in enumerate((8, 8, 16, 16, 32, 32, 64, 64)):
    BEFORE.append(column(0, number, wide, [number, (1 << wide) - 1 - number, 100 + number, 3]))
BEFORE.append(column(0, 10, 16, [3, 1, 0, 2]))
for number in range(8):
    BEFORE.append(call("logic", 0, number, 0, 0, 0, number % 2))
BEFORE.append(call("where", 0, 2, 0, 0, 100))
BEFORE.append(call("where", 0, 5, 0, 4, 50))
EMPTY = 12

COLUMN = range(16)
SET = range(8)
# By call: numbers that are answered without a refusal, and each one's range (None: any number is in it).
FORMS = {
    "open": ((ROWS,), (range(4097),)),
    "load": ((9, 16, 8, [1, 2, 3, 4]), (COLUMN, WIDTHS, range(1, 17), None)),
    "save": ((2, 64), (COLUMN, range(1, 65))),
    "tell": ((2,), (COLUMN,)),
    "where": ((1, 2, 6, 2 ** 64 - 1), (SET, COLUMN, range(10), None)),
    "match": ((1, 2, 3, 6), (SET, COLUMN, COLUMN, range(10))),
    "bits": ((1, 2, 2, 2 ** 64 - 1), (SET, COLUMN, range(3), None)),
    "among": ((1, 2, 1, [0, 9]), (SET, COLUMN, range(1, 17), None)),
    "logic": ((1, 2, 3, 4, 200), (SET, SET, SET, SET, range(256))),
    "count": ((1,), (SET,)),
    "find": ((0, [1]), (COLUMN, None)),
    "mix": ((1, 2, 3, 22), (COLUMN, COLUMN, COLUMN, range(23))),
    "one": ((1, 2, 5), (COLUMN, COLUMN, range(6))),
    "shift": ((1, 2, 3, 4), (COLUMN, COLUMN, COLUMN, range(5))),
    "funnel": ((1, 2, 3, 3, 1), (COLUMN, COLUMN, COLUMN, COLUMN, range(2))),
    "width": ((1, 2, 64, 3), (COLUMN, COLUMN, WIDTHS, range(4))),
    "neighbours": ((1, 2, 3, 3), (COLUMN, COLUMN, COLUMN, range(4))),
    "blend": ((1, 2, 3, 2), (COLUMN, COLUMN, COLUMN, SET)),
    "slide": ((1, 2, 3, 0), (COLUMN, COLUMN, COLUMN, range(ROWS + 1))),
    "sum": ((2, 5, 1), (COLUMN, SET, range(2))),
    "least": ((2, 5, 3), (COLUMN, SET, range(4))),
    "apart": ((0, 1), (COLUMN, COLUMN)),
    "nearest": ((0, [1, 2, 3, 4]), (COLUMN, None)),
    "dot": ((2, 3, 3), (COLUMN, COLUMN, range(6))),
    "pick": ((1, 2, 5), (COLUMN, COLUMN, SET)),
    "place": ((3, 2, 5), (COLUMN, COLUMN, SET)),
    "lookup": ((1, 10, 32, [9, 8, 7, 6]), (COLUMN, COLUMN, WIDTHS, None)),
    "gather": ((1, 2, 10), (COLUMN, COLUMN, COLUMN)),
    "scatter": ((3, 2, 10), (COLUMN, COLUMN, COLUMN)),
    "sort": ((1, 5, [2]), (COLUMN, SET, None)),
    "code": ((1, 2), (COLUMN, COLUMN)),
    "group": ((10, 2, 4), (COLUMN, COLUMN, range(1, 4097))),
    "join": ((2, 0, 3, 65536), (COLUMN, None, COLUMN, range(65537))),
}
# By call: where the columns stand that it reads.
READ = {"save": (0,), "where": (1,), "match": (1, 2), "bits": (1,), "among": (1,), "find": (0,),
        "mix": (1, 2), "one": (1,), "shift": (1, 2), "funnel": (1, 2, 3), "width": (1,), "neighbours": (1, 2),
        "blend": (1, 2), "slide": (1, 2), "sum": (0,), "least": (0,), "apart": (0, 1), "nearest": (0,), "dot": (0, 1),
        "pick": (1,), "place": (1,), "lookup": (1,), "gather": (1, 2), "scatter": (1, 2), "code": (1,),
        "group": (0, 1), "join": (0, 2)}
# By call: columns of one width, then a number that is in its range, 0 too.
AS_WIDE = ("match", "mix", "shift", "neighbours", "funnel", "blend", "slide")


def other(given, k, number):
    return given[:k] + (number,) + given[k + 1:]


def outside(span):
    wrong = set(FAR_OUT) | {min(span) - 1, max(span) + 1}
    if span == WIDTHS:
        wrong |= {0, 1, 7, 9, 12, 15, 17, 24, 31, 33, 48, 63, 128, -8}
    return sorted(wrong - set(span))


class Refusals(unittest.TestCase):
    def setUp(self):
        self.before = whole_store(0, ROWS, *BEFORE), whole_store(1, 2, *BEFORE)

    def check(self, name, given, refusal):
        asked = call(name, 0, *given)
        self.assertEqual(last(*BEFORE, asked), [refusal], (name, given))
        after = whole_store(0, ROWS, *BEFORE, asked), whole_store(1, 2, *BEFORE, asked)
        self.assertEqual(after, self.before, (name, given))

    def test_every_call_is_looked_at(self):
        self.assertEqual(set(FORMS), set(NUMBERS))
        for name, (given, spans) in FORMS.items():
            self.assertEqual(len(given), len(spans), name)

    def test_the_ends_of_each_range_are_in_it(self):
        for name, (given, spans) in FORMS.items():
            for k, span in enumerate(spans):
                if span is not None and name not in ("load", "among"):
                    for number in (min(span), max(span)):
                        self.assertNotEqual(last(*BEFORE, call(name, 0, *other(given, k, number))), [-2], (name, k))

    def test_a_number_out_of_its_range(self):
        for name, (given, spans) in FORMS.items():
            for k, span in enumerate(spans):
                for number in outside(span) if span is not None else ():
                    wrong = other(given, k, number)
                    if name == "among" and k == 2:
                        wrong = other(wrong, 3, [])
                    self.check(name, wrong, -2)

    def test_bits_of_load_above_its_width(self):
        for width in WIDTHS:
            self.check("load", (9, width, width + 1, [0] * ((ROWS * (width + 1) + 7) // 8)), -2)
            self.check("load", (9, width, 0, []), -2)

    def test_how_many_bytes_are_loaded(self):
        for length in (0, 1, 2, 3, 5, 100):
            self.check("load", (9, 16, 8, [7] * length), -2)
            self.check("load", (0, 16, 8, [7] * length), -2)

    def test_how_many_bytes_to_find(self):
        for length in (0, 17):
            self.check("find", (0, [1] * length), -2)

    def test_a_column_that_is_read_is_empty(self):
        for name, places in READ.items():
            given = FORMS[name][0]
            for k in places:
                for c in (8, EMPTY, 15):
                    self.check(name, other(given, k, c), -3)
            wrong = given
            for k in places:
                wrong = other(wrong, k, EMPTY)
            self.check(name, wrong, -3)

    def test_an_empty_column_without_rows(self):
        for name in READ:
            self.assertEqual(last(call("open", 0, 0), call(name, 0, *FORMS[name][0])), [-3], name)

    def test_widths_that_differ(self):
        for name in AS_WIDE:
            given = FORMS[name][0]
            for k in READ[name]:
                for c in (0, 4, 6):
                    self.check(name, other(other(given, k, c), len(given) - 1, 0), -3)

    def test_find_in_a_wider_column(self):
        for c in (2, 4, 6):
            self.check("find", (c, [1]), -3)

    def test_columns_that_are_not_for_the_call(self):
        for c in (2, 4, 6):
            self.check("nearest", (c, [1, 2, 3, 4]), -3)
            for given in ((c, c), (c, 0), (0, c)):
                self.check("apart", given, -3)
        for how, fit in ((0, 0), (1, 0), (2, 2), (3, 2), (4, 6), (5, 6)):
            for c in (0, 2, 4, 6):
                if c != fit:
                    for given in ((c, c), (c, fit), (fit, c)):
                        self.check("dot", given + (how,), -3)
        for d, c in ((0, 2), (2, 0), (4, 6), (6, 4)):
            self.check("place", (d, c, 5), -3)
            self.check("scatter", (d, c, 10), -3)
        for p in (0, 2, 4, 6):
            self.check("gather", (2, 2, p), -3)
            self.check("scatter", (2, 2, p), -3)

    def test_numbers_that_are_not_below(self):
        self.check("lookup", (10, 10, 8, [1, 2, 3]), -3)
        self.check("lookup", (9, 0, 8, [1] * 255), -3)
        self.check("group", (10, 2, 3), -3)
        self.check("group", (2, 2, 4096), -3)

    def test_keys_and_tables(self):
        for keys in ([], [-1], [64], [2, 64], [12, 64], [64, 12]):
            self.check("sort", (1, 5, keys), -2)
        for keys in ([12], [2, 12], [12 + 48, 2]):
            self.check("sort", (1, 5, keys), -3)
        for c in (10, EMPTY):
            self.check("lookup", (1, c, 8, []), -2)

    def test_more_pairs_than_room(self):
        for c, room in ((2, 3), (2, 0), (10, 3)):
            self.check("join", (c, 0, c, room), -4)
        self.check("join", (EMPTY, 0, 2, 0), -3)
        self.check("join", (2, 1, EMPTY, 0), -3)
        self.check("join", (2, 0, 2, -1), -2)

    def test_what_is_not_refused(self):
        """So that a refusal above is due to what is wrong there alone."""
        hows = {"mix": 15, "one": 5}
        for name, (given, spans) in FORMS.items():
            if name in hows:
                given = other(given, len(given) - 1, hows[name])
            self.assertGreaterEqual(last(*BEFORE, call(name, 0, *given))[0], -1, name)

    def test_save_with_too_few_bits(self):
        for bits in (1, 8, 15):
            self.check("save", (2, bits), -3)
        self.check("save", (6, 63), -3)

    def test_a_how_that_is_not_for_the_width(self):
        hows = {8: (13, 14, 15, 21, 22), 16: (21, 22), 32: (8, 9, 10, 11, 12, 13, 14, 15, 21, 22),
                64: (8, 9, 10, 11, 12, 13, 14, 15, 16)}
        for c, width in ((0, 8), (2, 16), (4, 32), (6, 64)):
            for how in hows[width]:
                self.check("mix", (c, c, c + 1, how), -3)
        for c, how in ((0, 1), (2, 1), (2, 3), (4, 3), (6, 3)):
            self.check("one", (c, c, how), -3)
        for how in (0, 1):
            self.check("funnel", (0, 0, 1, 1, how), -3)
        for c, hows in ((0, (0, 1, 2, 3)), (4, (2, 3)), (6, (0, 1, 2, 3))):
            for how in hows:
                self.check("neighbours", (c, c, c + 1, how), -3)

    def test_both_at_once(self):
        for name, places in READ.items():
            given, spans = FORMS[name]
            for k in places:
                empty = other(given, k, EMPTY)
                for j, span in enumerate(spans):
                    if j != k and span is not None:
                        wrong = other(empty, j, max(span) + 1)
                        if name == "among" and j == 2:
                            wrong = other(wrong, 3, [])
                        self.check(name, wrong, -2)
        self.check("find", (EMPTY, []), -2)
        self.check("find", (4, []), -2)
        for name in AS_WIDE:
            given, spans = FORMS[name]
            self.check(name, other(other(given, 1, 0), len(given) - 1, max(spans[-1]) + 1), -2)
            self.check(name, other(other(given, 1, 0), 0, -1), -2)
        self.check("mix", (16, 6, 7, 8), -2)
        self.check("one", (16, 6, 3), -2)
        self.check("funnel", (16, 0, 1, 1, 0), -2)
        self.check("neighbours", (-1, 0, 1, 0), -2)


if __name__ == "__main__":
    unittest.main()
