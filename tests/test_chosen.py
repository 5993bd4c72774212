"""Promises 5 to 11: where, match, bits, among, logic, count, find."""

import unittest

from tests.line import WIDTHS, call, column, last, rows_of, run, whole_store

# Of 8 bits with a sign: 0, 1, 127, -128, -1, 5.
NUMBERS = [0, 1, 127, 128, 255, 5]
OPENED = (call("open", 0, 6), column(0, 0, 8, NUMBERS))


def edges(width):
    half = 1 << (width - 1)
    return [0, 1, 2, half - 1, half, half + 1, 2 * half - 2, 2 * half - 1]


def stands(how, x, y, width):
    if how > 5:
        x = (x ^ (1 << (width - 1))) - (1 << (width - 1))
        y = (y ^ (1 << (width - 1))) - (1 << (width - 1))
    return {0: x == y, 1: x != y, 2: x < y, 3: x <= y, 4: x > y, 5: x >= y,
            6: x < y, 7: x <= y, 8: x > y, 9: x >= y}[how]


class ChosenRows(unittest.TestCase):
    def check(self, calls, asked, x, rows, n):
        self.assertEqual(last(*calls, asked), [len(rows)])
        self.assertEqual(rows_of(0, x, n, *calls, asked), rows)
        self.assertEqual(last(*calls, asked, call("count", 0, x)), [len(rows)])


class Where(ChosenRows):
    def test_each_how(self):
        for how, rows in ((0, [5]), (1, [0, 1, 2, 3, 4]), (2, [0, 1]), (3, [0, 1, 5]), (4, [2, 3, 4]),
                          (5, [2, 3, 4, 5]), (6, [0, 1, 3, 4]), (7, [0, 1, 3, 4, 5]), (8, [2]), (9, [2, 5])):
            self.check(OPENED, call("where", 0, 3, 0, how, 5), 3, rows, 6)

    def test_value_with_its_highest_bit_set(self):
        for how, rows in ((0, [4]), (2, [0, 1, 2, 3, 5]), (4, []), (6, [3]), (7, [3, 4]), (8, [0, 1, 2, 5]),
                          (9, [0, 1, 2, 4, 5])):
            self.check(OPENED, call("where", 0, 7, 0, how, 255), 7, rows, 6)

    def test_value_modulo_the_width(self):
        for value in (5 + 256, 5 + 2 ** 63, 2 ** 64 - 256 + 5):
            self.check(OPENED, call("where", 0, 0, 0, 0, value), 0, [5], 6)
        self.check(OPENED, call("where", 0, 0, 0, 6, 2 ** 64 - 1), 0, [3], 6)
        wide = (call("open", 0, 2), column(0, 0, 64, [5, 2 ** 64 - 1]))
        self.check(wide, call("where", 0, 0, 0, 0, 5 + 2 ** 63), 0, [], 2)
        self.check(wide, call("where", 0, 0, 0, 0, 2 ** 64 - 1), 0, [1], 2)

    def test_every_width_and_how_at_the_edges(self):
        for width in WIDTHS:
            numbers = edges(width)
            opened = (call("open", 0, len(numbers)), column(0, 1, width, numbers))
            for how in range(10):
                for value in numbers:
                    rows = [i for i, x in enumerate(numbers) if stands(how, x, value, width)]
                    self.check(opened, call("where", 0, 2, 1, how, value), 2, rows, len(numbers))

    def test_a_set_is_made_anew(self):
        self.check(OPENED + (call("where", 0, 2, 0, 5, 0),), call("where", 0, 2, 0, 0, 127), 2, [2], 6)

    def test_the_other_sets_and_columns_stay(self):
        before = OPENED + (call("where", 0, 1, 0, 2, 2),)
        after = whole_store(0, 6, *before, call("where", 0, 4, 0, 0, 0))
        expected = whole_store(0, 6, *before)
        expected[1][4] = [0]
        self.assertEqual(after, expected)

    def test_no_rows(self):
        self.check((call("open", 0, 0), column(0, 0, 8, [])), call("where", 0, 0, 0, 5, 0), 0, [], 0)


class Match(ChosenRows):
    def test_each_how(self):
        opened = (call("open", 0, 4), column(0, 0, 8, [1, 200, 7, 9]), column(0, 1, 8, [200, 1, 7, 10]))
        for how, rows in ((0, [2]), (1, [0, 1, 3]), (2, [0, 3]), (3, [0, 2, 3]), (4, [1]), (5, [1, 2]),
                          (6, [1, 3]), (7, [1, 2, 3]), (8, [0]), (9, [0, 2])):
            self.check(opened, call("match", 0, 5, 0, 1, how), 5, rows, 4)

    def test_every_width_and_how_at_the_edges(self):
        for width in WIDTHS:
            pairs = [(x, y) for x in edges(width) for y in edges(width)]
            opened = (call("open", 0, len(pairs)), column(0, 14, width, [x for x, y in pairs]),
                      column(0, 0, width, [y for x, y in pairs]))
            for how in range(10):
                rows = [i for i, (x, y) in enumerate(pairs) if stands(how, x, y, width)]
                self.check(opened, call("match", 0, 7, 14, 0, how), 7, rows, len(pairs))

    def test_a_column_with_itself(self):
        for how in range(10):
            rows = [0, 1, 2, 3, 4, 5] if how in (0, 3, 5, 7, 9) else []
            self.check(OPENED, call("match", 0, 0, 0, 0, how), 0, rows, 6)


class Bits(ChosenRows):
    def test_each_how(self):
        opened = (call("open", 0, 5), column(0, 0, 8, [0, 0b100, 0b110, 0b1, 255]))
        for how, rows in ((0, [1, 2, 4]), (1, [0, 3]), (2, [2, 4])):
            self.check(opened, call("bits", 0, 6, 0, how, 0b110), 6, rows, 5)

    def test_a_mask_without_bits(self):
        for how, rows in ((0, []), (1, [0, 1, 2, 3, 4, 5]), (2, [0, 1, 2, 3, 4, 5])):
            for mask in (0, 256, 2 ** 63):
                self.check(OPENED, call("bits", 0, 0, 0, how, mask), 0, rows, 6)

    def test_mask_modulo_the_width(self):
        for width in WIDTHS:
            top = (1 << width) - 1
            opened = (call("open", 0, 3), column(0, 0, width, [top, 1 << (width - 1), 1]))
            for how, rows in ((0, [0, 1, 2]), (1, []), (2, [0])):
                self.check(opened, call("bits", 0, 0, 0, how, 2 ** 64 - 1), 0, rows, 3)
            for how, rows in ((0, [0, 1]), (1, [2]), (2, [0, 1])):
                self.check(opened, call("bits", 0, 0, 0, how, 1 << (width - 1)), 0, rows, 3)


class Among(ChosenRows):
    def test_both_bounds_belong(self):
        self.check(OPENED, call("among", 0, 1, 0, 1, [1, 127]), 1, [1, 2, 5], 6)
        self.check(OPENED, call("among", 0, 1, 0, 1, [2, 126]), 1, [5], 6)
        self.check(OPENED, call("among", 0, 1, 0, 1, [128, 128]), 1, [3], 6)

    def test_some_of_several(self):
        self.check(OPENED, call("among", 0, 1, 0, 3, [0, 0, 200, 255, 4, 6]), 1, [0, 4, 5], 6)

    def test_bounds_the_wrong_way_round(self):
        self.check(OPENED, call("among", 0, 1, 0, 1, [127, 1]), 1, [], 6)
        self.check(OPENED, call("among", 0, 1, 0, 2, [127, 1, 5, 5]), 1, [5], 6)

    def test_bounds_are_not_cut_to_the_width(self):
        self.check(OPENED, call("among", 0, 1, 0, 1, [1, 2 ** 64 - 1]), 1, [1, 2, 3, 4, 5], 6)
        self.check(OPENED, call("among", 0, 1, 0, 1, [256, 511]), 1, [], 6)
        self.check(OPENED, call("among", 0, 1, 0, 1, [5, 256]), 1, [2, 3, 4, 5], 6)

    def test_numbers_are_without_a_sign(self):
        for width in WIDTHS:
            half = 1 << (width - 1)
            opened = (call("open", 0, 4), column(0, 0, width, [0, half - 1, half, 2 * half - 1]))
            self.check(opened, call("among", 0, 0, 0, 1, [half, 2 * half - 1]), 0, [2, 3], 4)

    def test_sixteen_of_them(self):
        opened = (call("open", 0, 64), column(0, 0, 8, list(range(64))))
        bounds = [bound for i in range(16) for bound in (4 * i, 4 * i + 1)]
        rows = [i for i in range(64) if i % 4 < 2]
        self.check(opened, call("among", 0, 7, 0, 16, bounds), 7, rows, 64)

    def test_how_many_of_them(self):
        for m in (0, 17, -1):
            self.assertEqual(last(*OPENED, call("among", 0, 0, 0, m, [])), [-2])


class Logic(ChosenRows):
    # Row i is in set 5 where bit 2 of i is 1, in set 6 where bit 1 is, in set 7 where bit 0 is.
    EIGHT = (call("open", 0, 8), column(0, 0, 8, list(range(8))), call("bits", 0, 5, 0, 0, 4),
             call("bits", 0, 6, 0, 0, 2), call("bits", 0, 7, 0, 0, 1))

    def test_every_table(self):
        for table in range(256):
            rows = [i for i in range(8) if table >> i & 1]
            self.check(self.EIGHT, call("logic", 0, 2, 5, 6, 7, table), 2, rows, 8)

    def test_the_order_of_the_three(self):
        self.check(self.EIGHT, call("logic", 0, 2, 7, 6, 5, 0b00010000), 2, [1], 8)
        self.check(self.EIGHT, call("logic", 0, 2, 6, 7, 5, 0b00010000), 2, [2], 8)

    def test_made_of_itself(self):
        for x in (5, 6, 7):
            for table in (0b10000000, 0b01010101, 0b11111110):
                rows = [i for i in range(8) if table >> i & 1]
                self.check(self.EIGHT, call("logic", 0, x, 5, 6, 7, table), x, rows, 8)
        self.check(self.EIGHT, call("logic", 0, 7, 7, 7, 7, 1), 7, [0, 2, 4, 6], 8)

    def test_first_and_last_set(self):
        self.check(self.EIGHT, call("logic", 0, 0, 7, 0, 0, 0b10000), 0, [1, 3, 5, 7], 8)

    def test_no_rows(self):
        self.check((call("open", 0, 0),), call("logic", 0, 0, 0, 0, 0, 255), 0, [], 0)


class Count(unittest.TestCase):
    def test_each_set_by_itself(self):
        calls = [call("open", 0, 8), column(0, 0, 8, list(range(8)))]
        for x in range(8):
            calls.append(call("where", 0, x, 0, 2, x))
        for x in range(8):
            self.assertEqual(last(*calls, call("count", 0, x)), [x])
            self.assertEqual(whole_store(0, 8, *calls, call("count", 0, x)), whole_store(0, 8, *calls))

    def test_none_and_all(self):
        self.assertEqual(last(call("open", 0, 4096), call("count", 0, 0)), [0])
        self.assertEqual(run(call("open", 0, 4096), call("logic", 0, 1, 0, 0, 0, 1), call("count", 0, 1))[1:],
                         [[4096], [4096]])


class Find(unittest.TestCase):
    def check(self, numbers, searched, answer):
        calls = (call("open", 0, len(numbers)), column(0, 3, 8, numbers))
        self.assertEqual(last(*calls, call("find", 0, 3, searched)), [answer])

    def test_the_first_place(self):
        self.check([1, 2, 1, 2, 3, 1, 2, 3], [1, 2], 0)
        self.check([1, 2, 1, 2, 3, 1, 2, 3], [1, 2, 3], 2)
        self.check([1, 1, 1, 2], [1, 1, 2], 1)
        self.check([0, 255, 254], [255], 1)

    def test_the_last_place(self):
        self.check([5, 6, 7, 8], [7, 8], 2)
        self.check([5, 6, 7, 8], [8], 3)
        self.check([5, 6, 7, 8], [5, 6, 7, 8], 0)

    def test_nowhere(self):
        self.check([5, 6, 7, 8], [8, 5], -1)
        self.check([5, 6, 7, 8], [8, 0], -1)
        self.check([5, 6, 7, 8], [6, 8], -1)
        self.check([5, 6, 7, 8], [5, 6, 7, 8, 9], -1)
        self.check([], [0], -1)
        self.check([0], [0, 0], -1)

    def test_sixteen_bytes(self):
        self.check([9] + list(range(16)) + [9], list(range(16)), 1)
        self.check([9] + list(range(16)), list(range(15)) + [16], -1)

    def test_how_many_bytes(self):
        calls = (call("open", 0, 2), column(0, 3, 8, [1, 2]))
        self.assertEqual(last(*calls, call("find", 0, 3, [])), [-2])

    def test_finding_changes_nothing(self):
        for searched in ([5], [99]):
            calls = OPENED + (call("where", 0, 2, 0, 4, 9),)
            self.assertEqual(whole_store(0, 6, *calls, call("find", 0, 0, searched)), whole_store(0, 6, *calls))

    def test_among_the_most_rows(self):
        self.check([0] * 4095 + [1], [0, 0, 1], 4093)


if __name__ == "__main__":
    unittest.main()
