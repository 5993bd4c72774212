"""The row that begins "All:": -2, then -3, and nothing is changed below 0."""

import unittest

from tests.line import FAR_OUT, NUMBERS, WIDTHS, call, column, last, whole_store

ROWS = 3
# Columns 0 and 1 have 8 bits, 2 and 3 have 16, 4 and 5 have 32, 6 and 7 have 64; 8 to 15 are empty.
BEFORE = [call("open", 1, 2), column(1, 0, 16, [5, 70]), call("where", 1, 3, 0, 0, 70), call("open", 0, ROWS)]
for number, wide in enumerate((8, 8, 16, 16, 32, 32, 64, 64)):
    BEFORE.append(column(0, number, wide, [number, (1 << wide) - 1 - number, 100 + number]))
for number in range(8):
    BEFORE.append(call("logic", 0, number, 0, 0, 0, number % 2))
BEFORE.append(call("where", 0, 2, 0, 0, 100))
BEFORE.append(call("where", 0, 5, 0, 4, 50))
EMPTY = 12

COLUMN = range(16)
SET = range(8)
# By call: numbers that are answered without a refusal, and each one's range (None: any number is in it).
FORMS = {
    "open": ((ROWS,), (range(4097),)),
    "load": ((9, 16, 8, [1, 2, 3]), (COLUMN, WIDTHS, range(1, 17), None)),
    "save": ((2, 64), (COLUMN, range(1, 65))),
    "tell": ((2,), (COLUMN,)),
    "where": ((1, 2, 6, 2 ** 64 - 1), (SET, COLUMN, range(10), None)),
    "match": ((1, 2, 3, 6), (SET, COLUMN, COLUMN, range(10))),
    "bits": ((1, 2, 2, 2 ** 64 - 1), (SET, COLUMN, range(3), None)),
    "among": ((1, 2, 1, [0, 9]), (SET, COLUMN, range(1, 17), None)),
    "logic": ((1, 2, 3, 4, 200), (SET, SET, SET, SET, range(256))),
    "count": ((1,), (SET,)),
    "find": ((0, [1]), (COLUMN, None)),
    "mix": ((1, 2, 3, 22), (COLUMN, COLUMN, COLUMN, range(23))),
    "one": ((1, 2, 5), (COLUMN, COLUMN, range(6))),
    "shift": ((1, 2, 3, 4), (COLUMN, COLUMN, COLUMN, range(5))),
    "funnel": ((1, 2, 3, 3, 1), (COLUMN, COLUMN, COLUMN, COLUMN, range(2))),
    "width": ((1, 2, 64, 3), (COLUMN, COLUMN, WIDTHS, range(4))),
    "neighbours": ((1, 2, 3, 3), (COLUMN, COLUMN, COLUMN, range(4))),
}
# By call: where the columns stand that it reads.
READ = {"save": (0,), "where": (1,), "match": (1, 2), "bits": (1,), "among": (1,), "find": (0,),
        "mix": (1, 2), "one": (1,), "shift": (1, 2), "funnel": (1, 2, 3), "width": (1,), "neighbours": (1, 2)}


def other(given, k, number):
    return given[:k] + (number,) + given[k + 1:]


def outside(span):
    wrong = set(FAR_OUT) | {min(span) - 1, max(span) + 1}
    if span == WIDTHS:
        wrong |= {0, 1, 7, 9, 12, 15, 17, 24, 31, 33, 48, 63, 128, -8}
    return sorted(wrong - set(span))


class Refusals(unittest.TestCase):
    def setUp(self):
        self.before = whole_store(0, ROWS, *BEFORE), whole_store(1, 2, *BEFORE)

    def check(self, name, given, refusal):
        asked = call(name, 0, *given)
        self.assertEqual(last(*BEFORE, asked), [refusal], (name, given))
        after = whole_store(0, ROWS, *BEFORE, asked), whole_store(1, 2, *BEFORE, asked)
        self.assertEqual(after, self.before, (name, given))

    def test_every_call_is_looked_at(self):
        self.assertEqual(set(FORMS), set(NUMBERS))
        for name, (given, spans) in FORMS.items():
            self.assertEqual(len(given), len(spans), name)

    def test_the_ends_of_each_range_are_in_it(self):
        for name, (given, spans) in FORMS.items():
            for k, span in enumerate(spans):
                if span is not None and name not in ("load", "among"):
                    for number in (min(span), max(span)):
                        self.assertNotEqual(last(*BEFORE, call(name, 0, *other(given, k, number))), [-2], (name, k))

    def test_a_number_out_of_its_range(self):
        for name, (given, spans) in FORMS.items():
            for k, span in enumerate(spans):
                for number in outside(span) if span is not None else ():
                    wrong = other(given, k, number)
                    if name == "among" and k == 2:
                        wrong = other(wrong, 3, [])
                    self.check(name, wrong, -2)

    def test_bits_of_load_above_its_width(self):
        for width in WIDTHS:
            self.check("load", (9, width, width + 1, [0] * ((ROWS * (width + 1) + 7) // 8)), -2)
            self.check("load", (9, width, 0, []), -2)

    def test_how_many_bytes_are_loaded(self):
        for length in (0, 1, 2, 4, 5, 100):
            self.check("load", (9, 16, 8, [7] * length), -2)
            self.check("load", (0, 16, 8, [7] * length), -2)

    def test_how_many_bytes_to_find(self):
        for length in (0, 17):
            self.check("find", (0, [1] * length), -2)

    def test_a_column_that_is_read_is_empty(self):
        for name, places in READ.items():
            given = FORMS[name][0]
            for k in places:
                for c in (8, EMPTY, 15):
                    self.check(name, other(given, k, c), -3)
            wrong = given
            for k in places:
                wrong = other(wrong, k, EMPTY)
            self.check(name, wrong, -3)

    def test_an_empty_column_without_rows(self):
        for name in READ:
            self.assertEqual(last(call("open", 0, 0), call(name, 0, *FORMS[name][0])), [-3], name)

    def test_widths_that_differ(self):
        for name in ("match", "mix", "shift", "neighbours", "funnel"):
            given = FORMS[name][0]
            for k in READ[name]:
                for c in (0, 4, 6):
                    self.check(name, other(other(given, k, c), len(given) - 1, 0), -3)

    def test_find_in_a_wider_column(self):
        for c in (2, 4, 6):
            self.check("find", (c, [1]), -3)

    def test_save_with_too_few_bits(self):
        for bits in (1, 8, 15):
            self.check("save", (2, bits), -3)
        self.check("save", (6, 63), -3)

    def test_a_how_that_is_not_for_the_width(self):
        hows = {8: (13, 14, 15, 21, 22), 16: (21, 22), 32: (8, 9, 10, 11, 12, 13, 14, 15, 21, 22),
                64: (8, 9, 10, 11, 12, 13, 14, 15, 16)}
        for c, width in ((0, 8), (2, 16), (4, 32), (6, 64)):
            for how in hows[width]:
                self.check("mix", (c, c, c + 1, how), -3)
        for c, how in ((0, 1), (2, 1), (2, 3), (4, 3), (6, 3)):
            self.check("one", (c, c, how), -3)
        for how in (0, 1):
            self.check("funnel", (0, 0, 1, 1, how), -3)
        for c, hows in ((0, (0, 1, 2, 3)), (4, (2, 3)), (6, (0, 1, 2, 3))):
            for how in hows:
                self.check("neighbours", (c, c, c + 1, how), -3)

    def test_both_at_once(self):
        for name, places in READ.items():
            given, spans = FORMS[name]
            for k in places:
                empty = other(given, k, EMPTY)
                for j, span in enumerate(spans):
                    if j != k and span is not None:
                        wrong = other(empty, j, max(span) + 1)
                        if name == "among" and j == 2:
                            wrong = other(wrong, 3, [])
                        self.check(name, wrong, -2)
        self.check("find", (EMPTY, []), -2)
        self.check("find", (4, []), -2)
        for name in ("match", "mix", "shift", "neighbours", "funnel"):
            given, spans = FORMS[name]
            self.check(name, other(other(given, 1, 0), len(given) - 1, max(spans[-1]) + 1), -2)
            self.check(name, other(other(given, 1, 0), 0, -1), -2)
        self.check("mix", (16, 6, 7, 8), -2)
        self.check("one", (16, 6, 3), -2)
        self.check("funnel", (16, 0, 1, 1, 0), -2)
        self.check("neighbours", (-1, 0, 1, 0), -2)


if __name__ == "__main__":
    unittest.main()
