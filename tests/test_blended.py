"""Promises 18 and 19: blend and slide."""

import unittest

from tests.line import WIDTHS, Checks, call, chosen, column, last, numbers_of

DIFFERENT = tuple(column(0, c, width, [1, 2, 3]) for c, width in enumerate(WIDTHS))


class Blend(Checks):
    def opened(self, width, xs, ys, rows):
        n = len(xs)
        return (call("open", 0, n), column(0, 1, width, xs), column(0, 14, width, ys)) + chosen(0, 3, rows, n)

    def test_from_e_where_the_row_is_in_the_set(self):
        for width in WIDTHS:
            top = (1 << width) - 1
            opened = self.opened(width, [0, 1, 2, top], [top, 11, 12, 13], (0, 2))
            for d in (0, 1, 14, 15):
                self.check_made(4, opened, call("blend", 0, d, 1, 14, 3), [0], (d, width, [top, 1, 12, top]))

    def test_the_other_way_round(self):
        opened = self.opened(16, [1, 2, 3, 4], [501, 502, 503, 504], (0, 2))
        self.check_made(4, opened, call("blend", 0, 5, 14, 1, 3), [0], (5, 16, [1, 502, 3, 504]))

    def test_no_row_and_all_rows_in_the_set(self):
        for rows, made in (((), [1, 2]), ((0, 1), [8, 9])):
            self.check_made(2, self.opened(8, [1, 2], [8, 9], rows), call("blend", 0, 0, 1, 14, 3), [0], (0, 8, made))

    def test_a_column_with_itself(self):
        opened = self.opened(8, [1, 2], [8, 9], (1,))
        self.check_made(2, opened, call("blend", 0, 1, 14, 14, 3), [0], (1, 8, [8, 9]))

    def test_one_row_and_none(self):
        self.check_made(1, self.opened(64, [5], [2 ** 64 - 1], (0,)), call("blend", 0, 2, 1, 14, 3), [0],
                        (2, 64, [2 ** 64 - 1]))
        self.check_made(0, self.opened(32, [], [], ()), call("blend", 0, 2, 1, 14, 3), [0], (2, 32, []))

    def test_the_most_rows(self):
        xs, ys = [i % 251 for i in range(4096)], [i % 241 for i in range(4096)]
        opened = self.opened(8, xs, ys, range(0, 4096, 3))
        self.assertEqual(numbers_of(0, 1, 4096, *opened, call("blend", 0, 1, 1, 14, 3)),
                         [ys[i] if i % 3 == 0 else xs[i] for i in range(4096)])

    def test_widths_that_differ(self):
        opened = (call("open", 0, 3),) + DIFFERENT
        for c in range(4):
            for e in range(4):
                self.assertEqual(last(*opened, call("blend", 0, 9, c, e, 0)), [0 if c == e else -3], (c, e))


class Slide(Checks):
    def opened(self, width, xs, ys):
        return call("open", 0, len(xs)), column(0, 1, width, xs), column(0, 15, width, ys)

    def test_each_k(self):
        for width in WIDTHS:
            top = (1 << width) - 1
            z = [1, 2, top, 4, 5, 6, top - 1, 0]
            opened = self.opened(width, z[:4], z[4:])
            for k in range(5):
                for d in (0, 1, 15):
                    self.check_made(4, opened, call("slide", 0, d, 1, 15, k), [0], (d, width, z[k:k + 4]))

    def test_k_out_of_its_range(self):
        opened = self.opened(8, [1, 2, 3, 4], [5, 6, 7, 8])
        for k in (-1, 5, 8, 4096, 2147483647, -2147483648):
            self.check_asked(4, opened, call("slide", 0, 1, 1, 15, k), [-2])

    def test_a_column_with_itself_is_turned(self):
        opened = self.opened(8, [1, 2, 3], [7, 8, 9])
        self.check_made(3, opened, call("slide", 0, 1, 1, 1, 2), [0], (1, 8, [3, 1, 2]))

    def test_one_row_and_none(self):
        self.check_made(1, self.opened(8, [1], [2]), call("slide", 0, 0, 1, 15, 0), [0], (0, 8, [1]))
        self.check_made(1, self.opened(8, [1], [2]), call("slide", 0, 0, 1, 15, 1), [0], (0, 8, [2]))
        self.check_made(0, self.opened(8, [], []), call("slide", 0, 0, 1, 15, 0), [0], (0, 8, []))
        self.check_asked(0, self.opened(8, [], []), call("slide", 0, 0, 1, 15, 1), [-2])

    def test_the_most_rows(self):
        xs, ys = [i % 251 for i in range(4096)], [i % 241 for i in range(4096)]
        for k in (0, 1, 63, 64, 2049, 4095, 4096):
            self.assertEqual(numbers_of(0, 1, 4096, *self.opened(8, xs, ys), call("slide", 0, 1, 1, 15, k)),
                             (xs + ys)[k:k + 4096])

    def test_widths_that_differ(self):
        opened = (call("open", 0, 3),) + DIFFERENT
        for c in range(4):
            for e in range(4):
                for k in (0, 3):
                    self.assertEqual(last(*opened, call("slide", 0, 9, c, e, k)), [0 if c == e else -3], (c, e))


if __name__ == "__main__":
    unittest.main()
