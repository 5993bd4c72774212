"""Promises 20 to 24: sum, least, apart, nearest, dot."""

import unittest

from tests.line import WIDTHS, Checks, call, chosen, column, last, run


def opened_with(n, *columns):
    """A store of n rows; a column is its number, its width, its numbers."""
    return (call("open", 0, n),) + tuple(column(0, *parts) for parts in columns)


class Sum(Checks):
    def check(self, width, numbers, rows, how, answer):
        n = len(numbers)
        opened = opened_with(n, (2, width, numbers)) + chosen(0, 5, rows, n)
        self.check_asked(n, opened, call("sum", 0, 2, 5, how), answer)

    def test_rows_of_the_set_alone(self):
        self.check(8, [1, 2, 4, 8], (0, 2, 3), 0, [3, 13, 0])
        self.check(8, [1, 2, 4, 8], (1,), 0, [1, 2, 0])
        self.check(8, [1, 2, 4, 8], (), 0, [0, 0, 0])
        self.check(8, [1, 2, 4, 8], (), 1, [0, 0, 0])

    def test_with_and_without_a_sign(self):
        for width in WIDTHS:
            top = (1 << width) - 1
            half = 1 << (width - 1)
            self.check(width, [top, 3], (0, 1), 0, [2, (top + 3) % 2 ** 64, (top + 3) >> 64])
            self.check(width, [top, 3], (0, 1), 1, [2, 2, 0])
            self.check(width, [half], (0,), 0, [1, half, 0])
            self.check(width, [half], (0,), 1, [1, 2 ** 64 - half, 2 ** 64 - 1])
            self.check(width, [half - 1], (0,), 1, [1, half - 1, 0])

    def test_below_0(self):
        self.check(8, [255, 254, 1], (0, 1, 2), 1, [3, 2 ** 64 - 2, 2 ** 64 - 1])
        self.check(64, [2 ** 63, 2 ** 63, 2 ** 63], (0, 1, 2), 1, [3, 2 ** 63, 2 ** 64 - 2])
        self.check(64, [2 ** 63, 2 ** 63 - 1, 1], (0, 1, 2), 1, [3, 0, 0])

    def test_past_64_bits(self):
        top = 2 ** 64 - 1
        self.check(64, [top, 1], (0, 1), 0, [2, 0, 1])
        self.check(64, [top] * 5, range(5), 0, [5, 2 ** 64 - 5, 4])
        self.check(64, [2 ** 63 - 1] * 3, range(3), 1, [3, 2 ** 63 - 3, 1])

    def test_no_rows(self):
        for width in WIDTHS:
            for how in (0, 1):
                self.check(width, [], (), how, [0, 0, 0])

    def test_the_most_rows(self):
        calls = [call("open", 0, 4096), call("load", 0, 0, 64, 1, [255] * 512), call("logic", 0, 0, 0, 0, 0, 1),
                 call("load", 0, 1, 64, 1, [0] * 512), call("mix", 0, 2, 1, 0, 1)]
        self.assertEqual(run(*calls, call("sum", 0, 2, 0, 0), call("sum", 0, 2, 0, 1))[-2:],
                         [[4096, 2 ** 64 - 4096, 4095], [4096, 2 ** 64 - 4096, 2 ** 64 - 1]])

    def test_wrong_how(self):
        opened = opened_with(1, (0, 8, [1]))
        for how in (-1, 2, 2147483647):
            self.check_asked(1, opened, call("sum", 0, 0, 0, how), [-2])
            self.check_asked(1, opened, call("sum", 0, 9, 0, how), [-2])
        self.check_asked(1, opened, call("sum", 0, 9, 0, 0), [-3])


class Least(Checks):
    def check(self, width, numbers, rows, answers):
        n = len(numbers)
        opened = opened_with(n, (2, width, numbers)) + chosen(0, 5, rows, n)
        for how, answer in enumerate(answers):
            self.check_asked(n, opened, call("least", 0, 2, 5, how), [answer])

    def test_each_how(self):
        self.check(8, [5, 200, 3, 127, 128, 1], range(6), (5, 1, 4, 3))
        self.check(8, [5, 200, 3, 127, 128, 1], (0, 1, 2), (2, 1, 1, 0))
        self.check(8, [5, 200, 3, 127, 128, 1], (3,), (3, 3, 3, 3))

    def test_each_width_at_the_edges(self):
        for width in WIDTHS:
            half = 1 << (width - 1)
            self.check(width, [7, half, half - 1, 0, 2 * half - 1], range(5), (3, 4, 1, 2))

    def test_the_first_of_those_alike(self):
        self.check(8, [9, 4, 4, 250, 9, 250, 4, 9], range(8), (1, 3, 3, 0))
        self.check(8, [9, 4, 4, 250, 9, 250, 4, 9], (2, 4, 5, 6, 7), (2, 5, 5, 4))
        self.check(16, [7, 7, 7], range(3), (0, 0, 0, 0))
        self.check(16, [7, 7, 7], (1, 2), (1, 1, 1, 1))

    def test_a_set_without_rows(self):
        self.check(8, [1, 2], (), (-1, -1, -1, -1))
        self.check(8, [], (), (-1, -1, -1, -1))

    def test_an_empty_column_is_refused_even_without_rows(self):
        for n in (0, 2):
            self.check_asked(n, opened_with(n), call("least", 0, 3, 0, 0), [-3])
            self.check_asked(n, opened_with(n), call("least", 0, 3, 0, 4), [-2])

    def test_the_most_rows(self):
        numbers = [100] * 4096
        numbers[4095] = 99
        numbers[4094] = 228
        opened = opened_with(4096, (0, 8, numbers)) + (call("logic", 0, 0, 0, 0, 0, 1),)
        told = run(*opened, *(call("least", 0, 0, 0, how) for how in range(4)))
        self.assertEqual(told[-4:], [[4095], [4094], [4094], [0]])


class Apart(Checks):
    def check(self, xs, ys, sums):
        opened = opened_with(len(xs), (0, 8, xs), (15, 8, ys))
        self.check_asked(len(xs), opened, call("apart", 0, 0, 15), [len(sums)] + sums)
        self.check_asked(len(xs), opened, call("apart", 0, 15, 0), [len(sums)] + sums)

    def test_by_eight(self):
        self.check([1, 2, 3, 4, 5, 6, 7, 8], [8, 7, 6, 5, 4, 3, 2, 1], [32])
        self.check([0] * 8 + [255] * 8, [255] * 8 + [254] * 8, [2040, 8])

    def test_without_a_sign(self):
        self.check([255, 127], [0, 128], [256])

    def test_each_number_of_rows(self):
        for n in list(range(0, 26)) + [31, 32, 33, 63, 64, 65]:
            xs, ys = [(i * 37) % 256 for i in range(n)], [(i * 101 + 50) % 256 for i in range(n)]
            far = [abs(x - y) for x, y in zip(xs, ys)]
            self.check(xs, ys, [sum(far[8 * k:8 * k + 8]) for k in range((n + 7) // 8)])

    def test_no_rows_and_one(self):
        self.check([], [], [])
        self.check([3], [10], [7])

    def test_the_most_rows(self):
        opened = opened_with(4096, (0, 8, [255] * 4096), (1, 8, [0] * 4095 + [250]))
        self.assertEqual(last(*opened, call("apart", 0, 0, 1)), [512] + [2040] * 511 + [1790])

    def test_a_column_with_itself(self):
        self.assertEqual(last(*opened_with(9, (0, 8, list(range(9)))), call("apart", 0, 0, 0)), [2, 0, 0])

    def test_other_widths(self):
        opened = opened_with(2, *((c, width, [1, 2]) for c, width in enumerate(WIDTHS)))
        for c in range(5):
            for e in range(5):
                if (c, e) != (0, 0):
                    self.check_asked(2, opened, call("apart", 0, c, e), [-3])
        for c, e in ((16, 1), (1, -1), (16, 9)):
            self.check_asked(2, opened, call("apart", 0, c, e), [-2])


class Nearest(Checks):
    def check(self, numbers, four, answer):
        opened = opened_with(len(numbers), (3, 8, numbers))
        self.check_asked(len(numbers), opened, call("nearest", 0, 3, four), [answer])

    def test_the_nearest(self):
        self.check([9, 9, 1, 2, 3, 4, 9, 9], [1, 2, 3, 4], 2)
        self.check([9, 9, 1, 2, 3, 5, 9, 9], [1, 2, 3, 4], 2)
        self.check([10, 20, 30, 40, 50], [21, 30, 40, 50], 1)

    def test_far_is_taken_together(self):
        self.check([0, 0, 0, 0, 10, 0, 0, 0], [3, 3, 3, 3], 0)
        self.check([20, 50, 100, 150, 9, 59, 109, 159], [0, 50, 100, 150], 0)
        self.check([40, 50, 100, 150, 9, 59, 109, 159], [0, 50, 100, 150], 4)

    def test_without_a_sign(self):
        self.check([255, 255, 255, 255, 128, 128, 128, 128], [0, 0, 0, 0], 4)
        self.check([255, 255, 255, 255, 128, 128, 128, 128], [127, 127, 127, 127], 4)

    def test_the_first_of_those_alike(self):
        self.check([5, 5, 5, 5, 5, 5], [7, 7, 7, 7], 0)
        self.check([1, 5, 5, 5, 5, 5, 5, 5, 5], [5, 5, 5, 5], 1)
        self.check([6, 6, 6, 6, 4, 4, 4, 4], [5, 5, 5, 5], 0)

    def test_the_last_place(self):
        self.check([0, 0, 0, 0, 1, 2, 3, 4], [1, 2, 3, 4], 4)
        self.check([0] * 4 + [255], [0, 0, 0, 200], 1)

    def test_how_many_rows(self):
        self.check([1, 2, 3, 4], [255, 255, 255, 255], 0)
        for n in range(4):
            self.check([1] * n, [1, 1, 1, 1], -3)

    def test_the_most_rows(self):
        opened = opened_with(4096, (3, 8, [9] * 4092 + [1, 2, 3, 4]))
        self.assertEqual(last(*opened, call("nearest", 0, 3, [1, 2, 3, 4])), [4092])

    def test_other_widths(self):
        opened = opened_with(5, *((c, width, [1, 2, 3, 4, 5]) for c, width in enumerate(WIDTHS)))
        for c, answer in ((0, 0), (1, -3), (2, -3), (3, -3), (4, -3), (16, -2), (-1, -2)):
            self.check_asked(5, opened, call("nearest", 0, c, [1, 2, 3, 4]), [answer])


class Dot(Checks):
    def check(self, width, xs, ys, how, sums):
        opened = opened_with(len(xs), (0, width, xs), (15, width, ys))
        self.assertEqual(last(*opened, call("dot", 0, 0, 15, how)), [len(sums)] + sums, (len(xs), how))

    def test_bytes(self):
        self.check(8, [1, 2, 3, 4, 5], [1, 1, 1, 255, 10], 0, [2, 50] + [0] * 14)
        self.check(8, [255] * 4, [128] * 4, 0, [2 ** 32 - 255 * 128 * 4] + [0] * 15)
        self.check(8, [128] * 4, [255] * 4, 0, [2 ** 32 - 512] + [0] * 15)
        for how in (0, 1):
            self.check(8, [1] * 65, [1] * 65, how, [5] + [4] * 15)
            self.check(8, [0] * 64 + [7] * 64, list(range(64)) * 2, how, [7 * (16 * i + 6) for i in range(16)])

    def test_sixteen_bits(self):
        self.check(16, [1, 2, 3], [10, 100, 0xffff], 2, [210, 2 ** 32 - 3] + [0] * 14)
        self.check(16, [0xffff, 0x8000], [0xffff, 0x8000], 2, [1 + 2 ** 30] + [0] * 15)
        for how in (2, 3):
            self.check(16, [1] * 33, [2] * 33, how, [6] + [4] * 15)
            self.check(16, [3] * 64, list(range(32)) * 2, how, [6 * (4 * i + 1) for i in range(16)])

    def test_sums_that_wrap_and_those_that_are_held(self):
        self.check(16, [0x8000] * 2, [0x8000] * 2, 2, [2 ** 31] + [0] * 15)
        self.check(16, [0x8000] * 2, [0x8000] * 2, 3, [2 ** 31 - 1] + [0] * 15)
        self.check(16, [0x8000] * 128, [0x8000] * 128, 2, [0] * 16)
        self.check(16, [0x8000] * 128, [0x8000] * 128, 3, [2 ** 31 - 1] * 16)
        below = [0x8000] * 128, [0x7fff] * 128
        self.check(16, *below, 2, [(-2 ** 15 * (2 ** 15 - 1) * 8) % 2 ** 32] * 16)
        self.check(16, *below, 3, [2 ** 31] * 16)

    def test_held_at_each_step(self):
        """Up to the highest, then one step down: that is less than the whole sum held once."""
        xs = [0x8000] * 64 + [0x8000] * 32
        ys = [0x8000] * 64 + [1] * 32
        self.check(16, xs, ys, 3, [2 ** 31 - 1 - 2 ** 16] * 16)
        self.check(16, xs, ys, 2, [2 ** 32 - 2 ** 16] * 16)
        xs, ys = [0x8000] * 96 + [1] * 32, [0x7fff] * 96 + [5] * 32
        self.check(16, xs, ys, 3, [2 ** 31 + 10] * 16)

    def test_the_products_of_one_step_are_taken_together(self):
        """The first product of the second step alone would be held; together with the other it is not."""
        xs = [0x7fff] * 2 + [0] * 30 + [0x7fff, 0x8000]
        ys = [0x7fff] * 2 + [0] * 30 + [0x7fff, 0x7fff]
        self.check(16, xs, ys, 3, [2 * 0x7fff ** 2 - 0x7fff] + [0] * 15)

    def test_bytes_cannot_reach_the_bound_in_the_most_rows(self):
        opened = opened_with(4096, (0, 8, [255] * 4096), (1, 8, [128] * 4096))
        for how in (0, 1):
            self.assertEqual(last(*opened, call("dot", 0, 0, 1, how)),
                             [16] + [2 ** 32 - 255 * 128 * 256] * 16)

    def test_the_lower_52_bits(self):
        top = 2 ** 52 - 1
        self.check(64, [3, 2 ** 52 + 5, 2 ** 64 - 1], [7, 2 ** 63 + 11, top], 4, [21, 55, 1] + [0] * 5)
        self.check(64, [3, 2 ** 52 + 5, 2 ** 64 - 1], [7, 2 ** 63 + 11, top], 5, [0, 0, top - 1] + [0] * 5)
        self.check(64, [2 ** 51, 2 ** 51], [2, 3], 4, [0, 2 ** 51] + [0] * 6)
        self.check(64, [2 ** 51, 2 ** 51], [2, 3], 5, [1, 1] + [0] * 6)
        self.check(64, [2 ** 51] * 9, [3] * 9, 4, [2 ** 52] + [2 ** 51] * 7)
        self.check(64, [2 ** 51] * 9, [3] * 9, 5, [2] + [1] * 7)

    def test_wide_sums_of_the_most_rows(self):
        calls = [call("open", 0, 4096), call("load", 0, 0, 64, 1, [255] * 512), call("load", 0, 1, 64, 1, [0] * 512),
                 call("mix", 0, 2, 1, 0, 1)]
        top = 2 ** 52 - 1
        self.assertEqual(run(*calls, call("dot", 0, 2, 2, 4), call("dot", 0, 2, 2, 5), call("dot", 0, 2, 0, 4))[-3:],
                         [[8] + [512] * 8, [8] + [512 * (top - 1)] * 8, [8] + [512 * top] * 8])

    def test_each_number_of_rows(self):
        for n in (0, 1, 2, 3, 4, 5, 7, 8, 9, 31, 32, 33, 63, 64, 65, 95, 96, 127, 128, 129, 200):
            for width, together, count, hows in ((8, 4, 16, (0, 1)), (16, 2, 16, (2, 3)), (64, 1, 8, (4,))):
                xs, ys = [(i * 37) % 128 for i in range(n)], [(i * 11 + 5) % 128 for i in range(n)]
                sums = [0] * count
                for i in range(n):
                    sums[i // together % count] += xs[i] * ys[i]
                for how in hows:
                    self.check(width, xs, ys, how, sums)

    def test_a_column_with_itself(self):
        self.assertEqual(last(*opened_with(2, (0, 8, [200, 3])), call("dot", 0, 0, 0, 0)),
                         [16, 2 ** 32 - 200 * 56 + 9] + [0] * 15)

    def test_nothing_is_changed(self):
        for width, hows in ((8, (0, 1)), (16, (2, 3)), (64, (4, 5))):
            opened = opened_with(2, (0, width, [1, 2]), (1, width, [0, 0]))
            for how in hows:
                count = 8 if width == 64 else 16
                self.check_asked(2, opened, call("dot", 0, 0, 1, how), [count] + [0] * count)

    def test_widths(self):
        opened = opened_with(2, *((c, width, [1, 2]) for c, width in enumerate(WIDTHS)))
        suits = {0: (0,), 1: (0,), 2: (1,), 3: (1,), 4: (3,), 5: (3,)}
        for how in range(6):
            for c in range(5):
                for e in range(5):
                    if c == e and c in suits[how]:
                        self.assertIn(last(*opened, call("dot", 0, c, e, how))[0], (8, 16))
                    else:
                        self.check_asked(2, opened, call("dot", 0, c, e, how), [-3])

    def test_out_of_range(self):
        opened = opened_with(2, (0, 8, [1, 2]))
        for c, e, how in ((0, 0, -1), (0, 0, 6), (16, 0, 0), (0, -1, 0), (9, 0, 6), (9, 16, 0)):
            self.check_asked(2, opened, call("dot", 0, c, e, how), [-2])


if __name__ == "__main__":
    unittest.main()
