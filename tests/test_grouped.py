"""Promises 32 and 33: group and join."""

import unittest

from tests.line import WIDTHS, Checks, call, column, last, run, whole_store


class Group(Checks):
    def check(self, keys, numbers, m, answer, key_width=8, width=8):
        n = len(keys)
        opened = (call("open", 0, n), column(0, 3, key_width, keys), column(0, 15, width, numbers))
        self.check_asked(n, opened, call("group", 0, 3, 15, m), answer)

    def test_sums_by_key(self):
        self.check([2, 0, 2, 4], [10, 20, 30, 40], 5, [3, 20, 0, 40, 0, 40])
        self.check([2, 0, 2, 4], [10, 20, 30, 40], 7, [3, 20, 0, 40, 0, 40, 0, 0])

    def test_a_key_that_sums_to_0_stands_there_too(self):
        self.check([1, 1, 3], [0, 0, 0], 4, [2, 0, 0, 0, 0])

    def test_every_width_with_every_other(self):
        for key_width in WIDTHS:
            for width in WIDTHS:
                top = (1 << width) - 1
                self.check([1, 0, 1], [top, 5, top], 2, [2, 5, 2 * top % 2 ** 64], key_width, width)

    def test_sums_wrap_past_64_bits(self):
        self.check([0, 0, 0], [2 ** 64 - 1, 2 ** 64 - 1, 5], 1, [1, 3], width=64)
        self.check([0, 0], [2 ** 63, 2 ** 63], 1, [1, 0], width=64)

    def test_numbers_are_without_a_sign(self):
        self.check([0, 0], [255, 255], 1, [1, 510])

    def test_a_number_not_below_m(self):
        self.check([0, 1, 2], [1, 1, 1], 3, [3, 1, 1, 1])
        self.check([0, 1, 2], [1, 1, 1], 2, [-3])
        self.check([2, 0, 0], [1, 1, 1], 2, [-3])
        self.check([0, 4096], [1, 1], 4096, [-3], key_width=16)
        self.check([0, 2 ** 64 - 1], [1, 1], 4096, [-3], key_width=64)

    def test_m_of_1_and_of_4096(self):
        self.check([0, 0, 0], [1, 2, 3], 1, [1, 6])
        self.check([0, 1], [1, 2], 1, [-3])
        self.check([4095, 0, 4095], [1, 2, 3], 4096, [2, 2] + [0] * 4094 + [4], key_width=16)

    def test_m_out_of_its_range(self):
        for m in (0, -1, 4097, 2147483647, -2147483648):
            self.check([0, 0], [1, 2], m, [-2])
            self.check([9, 9], [1, 2], m, [-2])

    def test_no_rows(self):
        self.check([], [], 1, [0, 0])
        self.check([], [], 3, [0, 0, 0, 0])

    def test_a_column_by_itself(self):
        opened = (call("open", 0, 4), column(0, 3, 8, [1, 3, 3, 0]))
        self.check_asked(4, opened, call("group", 0, 3, 3, 4), [3, 0, 1, 0, 6])

    def test_the_most_rows(self):
        opened = (call("open", 0, 4096), column(0, 0, 16, list(range(4096))))
        self.assertEqual(last(*opened, call("group", 0, 0, 0, 4096)), [4096] + list(range(4096)))
        opened = (call("open", 0, 4096), column(0, 0, 8, [i % 3 for i in range(4096)]), column(0, 1, 8, [255] * 4096))
        self.assertEqual(last(*opened, call("group", 0, 0, 1, 3)), [3, 255 * 1366, 255 * 1365, 255 * 1365])

    def test_empty_columns_and_columns_out_of_range(self):
        opened = (call("open", 0, 2), column(0, 0, 8, [0, 1]))
        for k, c, answer in ((9, 0, -3), (0, 9, -3), (9, 9, -3), (16, 0, -2), (0, 16, -2), (-1, 9, -2), (9, -1, -2)):
            self.check_asked(2, opened, call("group", 0, k, c, 2), [answer])
        self.check_asked(2, opened, call("group", 0, 9, 9, 0), [-2])


class Join(Checks):
    def check(self, xs, ys, pairs, width=8, wide=8):
        """With the other store, each way round, and with one store alone, if both have as many rows."""
        both = (call("open", 0, len(xs)), call("open", 1, len(ys)), column(0, 2, width, xs), column(1, 9, wide, ys))
        told = [len(pairs)] + [row for pair in pairs for row in pair]
        turned = [len(pairs)] + [row for i, j in sorted((j, i) for i, j in pairs) for row in (i, j)]
        for room in (len(pairs), len(pairs) + 1, 65536):
            self.check_both(both, call("join", 0, 2, 1, 9, room), told)
            self.check_both(both, call("join", 1, 9, 0, 2, room), turned)
        for room in sorted({len(pairs) - 1, 0} - {-1, len(pairs)}):
            self.check_both(both, call("join", 0, 2, 1, 9, room), [-4])
            self.check_both(both, call("join", 1, 9, 0, 2, room), [-4])
        if len(xs) == len(ys):
            one = (call("open", 1, len(xs)), column(1, 2, width, xs), column(1, 9, wide, ys))
            self.assertEqual(last(*one, call("join", 1, 2, 1, 9, 65536)), told)
            self.assertEqual(last(*one, call("join", 1, 9, 1, 2, 65536)), turned)

    def check_both(self, opened, asked, answer):
        self.assertEqual(last(*opened, asked), answer, asked)
        for o in (0, 1):
            self.assertEqual(whole_store(o, opened[o][2], *opened, asked), whole_store(o, opened[o][2], *opened))

    def test_by_i_then_by_j(self):
        self.check([5, 7, 5], [7, 5, 9, 5], [(0, 1), (0, 3), (1, 0), (2, 1), (2, 3)])
        self.check([9, 1, 5], [1, 5, 9], [(0, 2), (1, 0), (2, 1)])

    def test_no_pair(self):
        self.check([1, 2], [3, 4], [])
        self.check([1, 2], [], [])
        self.check([], [1], [])
        self.check([], [], [])

    def test_one_row(self):
        self.check([4], [4], [(0, 0)])
        self.check([4], [4, 4], [(0, 0), (0, 1)])

    def test_widths_do_not_matter(self):
        for width in WIDTHS:
            for wide in WIDTHS:
                top = (1 << min(width, wide)) - 1
                self.check([top, 3], [3, top], [(0, 1), (1, 0)], width, wide)
        self.check([255, 1], [65535, 257], [], 8, 16)

    def test_a_column_with_itself(self):
        opened = (call("open", 0, 3), column(0, 0, 8, [4, 5, 4]))
        told = [5, 0, 0, 0, 2, 1, 1, 2, 0, 2, 2]
        self.check_asked(3, opened, call("join", 0, 0, 0, 0, 5), told)
        self.check_asked(3, opened, call("join", 0, 0, 0, 0, 4), [-4])

    def test_room_0(self):
        opened = (call("open", 0, 2), column(0, 0, 8, [1, 2]), column(0, 1, 8, [3, 2]), column(0, 2, 8, [4, 5]))
        self.check_asked(2, opened, call("join", 0, 0, 0, 2, 0), [0])
        self.check_asked(2, opened, call("join", 0, 0, 0, 1, 0), [-4])

    def test_room_out_of_its_range(self):
        opened = (call("open", 0, 2), column(0, 0, 8, [1, 2]))
        for room in (-1, 65537, 2147483647, -2147483648):
            for c, e in ((0, 0), (9, 0), (0, 9)):
                self.check_asked(2, opened, call("join", 0, c, 0, e, room), [-2])

    def test_the_first_of_several_refusals(self):
        both = (call("open", 0, 2), call("open", 1, 2), column(0, 0, 8, [1, 1]), column(1, 1, 8, [1, 1]))
        for c, e, room, answer in ((0, 1, 3, -4), (0, 1, 4, 4), (1, 1, 3, -3), (0, 0, 3, -3), (1, 0, 3, -3),
                                   (16, 1, 3, -2), (0, 16, 3, -2), (-1, 0, 3, -2), (1, -1, 3, -2), (1, 0, -1, -2)):
            asked = call("join", 0, c, 1, e, room)
            if answer < 0:
                self.check_both(both, asked, [answer])
            else:
                self.assertEqual(last(*both, asked)[0], answer)

    def test_the_most_pairs(self):
        opened = (call("open", 0, 256), call("open", 1, 256), column(0, 0, 8, [7] * 256), column(1, 0, 8, [7] * 256))
        pairs = [row for i in range(256) for j in range(256) for row in (i, j)]
        told = run(*opened, call("join", 0, 0, 1, 0, 65536), call("join", 0, 0, 1, 0, 65535))
        self.assertEqual(told[-2:], [[65536] + pairs, [-4]])
        opened = (call("open", 0, 257), call("open", 1, 256), column(0, 0, 8, [7] * 257), column(1, 0, 8, [7] * 256))
        self.assertEqual(last(*opened, call("join", 0, 0, 1, 0, 65536)), [-4])

    def test_the_most_rows(self):
        opened = (call("open", 0, 4096), call("open", 1, 4096), column(0, 0, 8, [7] * 4096),
                  column(1, 0, 8, [7] * 4095 + [6]))
        self.assertEqual(last(*opened, call("join", 0, 0, 1, 0, 65536)), [-4])
        opened = (call("open", 0, 4096), column(0, 0, 16, list(range(4096))), call("open", 1, 2),
                  column(1, 4, 64, [4095, 2 ** 63]))
        self.assertEqual(last(*opened, call("join", 0, 0, 1, 4, 1)), [1, 4095, 0])


if __name__ == "__main__":
    unittest.main()
