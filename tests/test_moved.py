"""Promises 25 to 31: pick, place, lookup, gather, scatter, sort, code."""

import unittest

from tests.line import WIDTHS, Checks, call, chosen, column, last, numbers_of, run


def opened_with(n, *columns):
    """A store of n rows; a column is its number, its width, its numbers."""
    return (call("open", 0, n),) + tuple(column(0, *parts) for parts in columns)


class Pick(Checks):
    def test_in_order_then_zeros(self):
        for width in WIDTHS:
            top = (1 << width) - 1
            opened = opened_with(5, (1, width, [top, 2, 3, 4, top - 1])) + chosen(0, 6, (0, 2, 4), 5)
            for d in (0, 1, 15):
                self.check_made(5, opened, call("pick", 0, d, 1, 6), [3], (d, width, [top, 3, top - 1, 0, 0]))

    def test_no_row_and_all_rows(self):
        for rows, made in (((), [0, 0, 0]), ((0, 1, 2), [7, 8, 9]), ((2,), [9, 0, 0])):
            opened = opened_with(3, (1, 16, [7, 8, 9])) + chosen(0, 6, rows, 3)
            for d in (1, 2):
                self.check_made(3, opened, call("pick", 0, d, 1, 6), [len(rows)], (d, 16, made))

    def test_nothing_of_the_old_column_stays(self):
        opened = opened_with(3, (1, 16, [7, 8, 9]), (2, 64, [2 ** 64 - 1] * 3)) + chosen(0, 6, (1,), 3)
        self.check_made(3, opened, call("pick", 0, 2, 1, 6), [1], (2, 16, [8, 0, 0]))

    def test_no_rows(self):
        self.check_made(0, opened_with(0, (1, 32, [])), call("pick", 0, 2, 1, 0), [0], (2, 32, []))

    def test_the_most_rows(self):
        xs = [i % 251 for i in range(4096)]
        opened = opened_with(4096, (1, 8, xs)) + chosen(0, 6, range(1, 4096, 2), 4096)
        self.assertEqual(last(*opened, call("pick", 0, 1, 1, 6)), [2048])
        self.assertEqual(numbers_of(0, 1, 4096, *opened, call("pick", 0, 1, 1, 6)), xs[1::2] + [0] * 2048)


class Place(Checks):
    def test_rows_of_the_set_get_the_first_numbers(self):
        for width in WIDTHS:
            top = (1 << width) - 1
            opened = opened_with(5, (1, width, [top, 2, 3, 4, 5]), (2, width, [11, 12, 13, 14, top - 1]))
            opened += chosen(0, 6, (1, 3), 5)
            self.check_made(5, opened, call("place", 0, 2, 1, 6), [2], (2, width, [11, top, 13, 2, top - 1]))

    def test_into_an_empty_column(self):
        for width in WIDTHS:
            opened = opened_with(4, (1, width, [5, 6, 7, 8])) + chosen(0, 6, (1, 3), 4)
            self.check_made(4, opened, call("place", 0, 9, 1, 6), [2], (9, width, [0, 5, 0, 6]))

    def test_into_itself(self):
        opened = opened_with(5, (1, 16, [1, 2, 3, 4, 5])) + chosen(0, 6, (1, 2, 4), 5)
        self.check_made(5, opened, call("place", 0, 1, 1, 6), [3], (1, 16, [1, 1, 2, 4, 3]))

    def test_no_row_and_all_rows(self):
        for rows, made in (((), [7, 7, 7]), ((0, 1, 2), [1, 2, 3])):
            opened = opened_with(3, (1, 8, [1, 2, 3]), (2, 8, [7, 7, 7])) + chosen(0, 6, rows, 3)
            self.check_made(3, opened, call("place", 0, 2, 1, 6), [len(rows)], (2, 8, made))
        self.check_made(3, opened_with(3, (1, 8, [1, 2, 3])), call("place", 0, 5, 1, 6), [0], (5, 8, [0, 0, 0]))

    def test_a_column_of_another_width(self):
        opened = opened_with(3, *((c, width, [1, 2, 3]) for c, width in enumerate(WIDTHS))) + chosen(0, 6, (1,), 3)
        for d in range(4):
            for c in range(4):
                if c != d:
                    self.check_asked(3, opened, call("place", 0, d, c, 6), [-3])
                    self.check_asked(3, opened, call("place", 0, d, c, 0), [-3])

    def test_no_rows(self):
        self.check_made(0, opened_with(0, (1, 32, [])), call("place", 0, 2, 1, 0), [0], (2, 32, []))
        self.check_asked(0, opened_with(0, (1, 32, []), (2, 16, [])), call("place", 0, 2, 1, 0), [-3])

    def test_what_was_picked_comes_back(self):
        xs = [(i * 7) % 251 for i in range(4096)]
        opened = opened_with(4096, (1, 8, xs)) + chosen(0, 6, range(0, 4096, 5), 4096)
        calls = (call("pick", 0, 2, 1, 6), call("place", 0, 3, 2, 6))
        self.assertEqual(numbers_of(0, 3, 4096, *opened, *calls), [x if i % 5 == 0 else 0 for i, x in enumerate(xs)])


class Lookup(Checks):
    def test_each_width_from_each(self):
        for width in WIDTHS:
            for wide in WIDTHS:
                top = (1 << wide) - 1
                opened = opened_with(4, (1, width, [2, 0, 2, 1]))
                for d in (0, 1, 15):
                    self.check_made(4, opened, call("lookup", 0, d, 1, wide, [top, 5, 1]), [0],
                                    (d, wide, [1, top, 1, 5]))

    def test_a_number_not_below_m(self):
        for width, numbers in ((8, [0, 3, 1]), (8, [255, 0, 0]), (16, [0, 0, 65535]), (64, [0, 2 ** 64 - 1, 0])):
            for d in (1, 2):
                self.check_asked(3, opened_with(3, (1, width, numbers)), call("lookup", 0, d, 1, 8, [4, 5, 6]), [-3])
        self.check_made(3, opened_with(3, (1, 8, [0, 3, 1])), call("lookup", 0, 1, 1, 8, [4, 5, 6, 7]), [0],
                        (1, 8, [4, 7, 5]))

    def test_a_table_of_one(self):
        self.check_made(2, opened_with(2, (1, 8, [0, 0])), call("lookup", 0, 1, 1, 64, [2 ** 64 - 1]), [0],
                        (1, 64, [2 ** 64 - 1] * 2))
        self.check_asked(2, opened_with(2, (1, 8, [0, 1])), call("lookup", 0, 1, 1, 8, [9]), [-3])

    def test_a_table_of_4096(self):
        table = [65535 - i for i in range(4096)]
        opened = opened_with(3, (1, 16, [4095, 0, 17]))
        self.check_made(3, opened, call("lookup", 0, 2, 1, 16, table), [0], (2, 16, [61440, 65535, 65518]))
        opened = opened_with(3, (1, 16, [4095, 0, 4096]))
        self.check_asked(3, opened, call("lookup", 0, 2, 1, 16, table), [-3])

    def test_how_many_numbers_a_table_has(self):
        for c in (1, 9):
            for table in ([], [5] * 4097):
                self.check_asked(2, opened_with(2, (1, 8, [0, 0])), call("lookup", 0, 1, c, 8, table), [-2])
        self.check_asked(0, opened_with(0, (1, 8, [])), call("lookup", 0, 1, 1, 8, []), [-2])

    def test_a_width_that_is_none(self):
        for width in (0, 1, 7, 9, 24, 63, 128, -8, 2147483647, -2147483648):
            for c in (1, 9):
                self.check_asked(2, opened_with(2, (1, 8, [0, 0])), call("lookup", 0, 1, c, width, [2 ** 64 - 1]), [-2])

    def test_no_rows_and_the_most_rows(self):
        self.check_made(0, opened_with(0, (1, 8, [])), call("lookup", 0, 1, 1, 32, [4]), [0], (1, 32, []))
        xs = [i % 256 for i in range(4096)]
        asked = call("lookup", 0, 1, 1, 32, [1000 * i for i in range(256)])
        self.assertEqual(numbers_of(0, 1, 4096, *opened_with(4096, (1, 8, xs)), asked), [1000 * x for x in xs])


class Gather(Checks):
    def test_each_width(self):
        for width in WIDTHS:
            top = (1 << width) - 1
            opened = opened_with(4, (1, width, [top, 11, 12, 13]), (2, 16, [3, 0, 0, 2]))
            for d in (0, 1, 2, 15):
                self.check_made(4, opened, call("gather", 0, d, 1, 2), [0], (d, width, [13, top, top, 12]))

    def test_one_column_for_all(self):
        opened = opened_with(4, (2, 16, [3, 0, 1, 2]))
        self.check_made(4, opened, call("gather", 0, 2, 2, 2), [0], (2, 16, [2, 3, 0, 1]))

    def test_a_row_that_is_not_there(self):
        for rows in ([3, 0, 0], [0, 0, 3], [0, 65535, 0]):
            opened = opened_with(3, (1, 8, [1, 2, 3]), (2, 16, rows))
            for d in (1, 2, 3):
                self.check_asked(3, opened, call("gather", 0, d, 1, 2), [-3])

    def test_rows_in_another_width(self):
        opened = opened_with(3, *((c, width, [0, 1, 2]) for c, width in enumerate(WIDTHS)))
        for p in range(5):
            answer = last(*opened, call("gather", 0, 0, 3, p))
            self.assertEqual(answer, [0 if p == 1 else -3], p)
            if p != 1:
                self.check_asked(3, opened, call("gather", 0, 0, 3, p), [-3])

    def test_no_rows_one_and_the_most(self):
        self.check_made(0, opened_with(0, (1, 8, []), (2, 16, [])), call("gather", 0, 3, 1, 2), [0], (3, 8, []))
        self.check_made(1, opened_with(1, (1, 8, [9]), (2, 16, [0])), call("gather", 0, 3, 1, 2), [0], (3, 8, [9]))
        xs, rows = [i % 251 for i in range(4096)], [(i * 5 + 4095) % 4096 for i in range(4096)]
        opened = opened_with(4096, (1, 8, xs), (2, 16, rows))
        self.assertEqual(numbers_of(0, 1, 4096, *opened, call("gather", 0, 1, 1, 2)), [xs[row] for row in rows])


class Scatter(Checks):
    def test_each_width(self):
        for width in WIDTHS:
            top = (1 << width) - 1
            opened = opened_with(4, (1, width, [top, 11, 12, 13]), (2, 16, [3, 0, 1, 2]), (3, width, [7] * 4))
            self.check_made(4, opened, call("scatter", 0, 3, 1, 2), [0], (3, width, [11, 12, 13, top]))
            self.check_made(4, opened, call("scatter", 0, 1, 1, 2), [0], (1, width, [11, 12, 13, top]))

    def test_the_last_one_stays_where_several_go_to_one_row(self):
        opened = opened_with(4, (1, 8, [10, 11, 12, 13]), (2, 16, [1, 1, 3, 1]), (3, 8, [5, 6, 7, 8]))
        self.check_made(4, opened, call("scatter", 0, 3, 1, 2), [0], (3, 8, [5, 13, 7, 12]))

    def test_other_rows_of_an_empty_column_are_0(self):
        opened = opened_with(4, (1, 32, [10, 11, 12, 2 ** 32 - 1]), (2, 16, [1, 1, 3, 1]))
        self.check_made(4, opened, call("scatter", 0, 9, 1, 2), [0], (9, 32, [0, 2 ** 32 - 1, 0, 12]))

    def test_into_what_is_read(self):
        opened = opened_with(4, (1, 16, [10, 11, 12, 13]), (2, 16, [1, 2, 3, 3]))
        self.check_made(4, opened, call("scatter", 0, 1, 1, 2), [0], (1, 16, [10, 10, 11, 13]))
        self.check_made(4, opened, call("scatter", 0, 2, 1, 2), [0], (2, 16, [1, 10, 11, 13]))
        self.check_made(4, opened, call("scatter", 0, 2, 2, 2), [0], (2, 16, [1, 1, 2, 3]))
        self.check_made(4, opened, call("scatter", 0, 1, 2, 2), [0], (1, 16, [10, 1, 2, 3]))

    def test_a_column_of_another_width(self):
        opened = opened_with(3, *((c, width, [0, 1, 2]) for c, width in enumerate(WIDTHS)))
        for d in range(4):
            for c in range(4):
                if c != d:
                    self.check_asked(3, opened, call("scatter", 0, d, c, 1), [-3])

    def test_a_row_that_is_not_there(self):
        for rows in ([3, 0, 0], [0, 0, 3], [0, 65535, 0]):
            opened = opened_with(3, (1, 8, [1, 2, 3]), (2, 16, rows))
            for d in (1, 3):
                self.check_asked(3, opened, call("scatter", 0, d, 1, 2), [-3])

    def test_rows_in_another_width(self):
        opened = opened_with(3, *((c, width, [0, 1, 2]) for c, width in enumerate(WIDTHS)))
        for p in (0, 2, 3, 4):
            self.check_asked(3, opened, call("scatter", 0, 9, 3, p), [-3])

    def test_no_rows_one_and_the_most(self):
        self.check_made(0, opened_with(0, (1, 8, []), (2, 16, [])), call("scatter", 0, 3, 1, 2), [0], (3, 8, []))
        self.check_made(1, opened_with(1, (1, 8, [9]), (2, 16, [0])), call("scatter", 0, 3, 1, 2), [0], (3, 8, [9]))
        xs, rows = [i % 251 for i in range(4096)], [(i * 5 + 4095) % 4096 for i in range(4096)]
        opened = opened_with(4096, (1, 8, xs), (2, 16, rows))
        calls = (call("scatter", 0, 3, 1, 2), call("gather", 0, 4, 3, 2))
        self.assertEqual(numbers_of(0, 4, 4096, *opened, *calls), xs)


class Sort(Checks):
    def check(self, width, numbers, rows, keys, made):
        n = len(numbers)
        opened = opened_with(n, (1, width, numbers)) + chosen(0, 6, rows, n)
        for p in (0, 1, 15):
            self.check_made(n, opened, call("sort", 0, p, 6, keys), [0], (p, 16, made))

    def test_each_way(self):
        numbers = [5, 200, 3, 127, 128]
        self.check(8, numbers, range(5), [1], [2, 0, 3, 4, 1])
        self.check(8, numbers, range(5), [1 + 16], [1, 4, 3, 0, 2])
        self.check(8, numbers, range(5), [1 + 32], [4, 1, 2, 0, 3])
        self.check(8, numbers, range(5), [1 + 48], [3, 0, 2, 1, 4])

    def test_each_width_at_the_edges(self):
        for width in WIDTHS:
            half = 1 << (width - 1)
            numbers = [half, 0, 2 * half - 1, half - 1]
            self.check(width, numbers, range(4), [1], [1, 3, 0, 2])
            self.check(width, numbers, range(4), [17], [2, 0, 3, 1])
            self.check(width, numbers, range(4), [33], [0, 2, 1, 3])
            self.check(width, numbers, range(4), [49], [3, 1, 2, 0])

    def test_rows_alike_stay_as_they_were(self):
        numbers = [2, 1, 2, 1, 2, 255]
        self.check(8, numbers, range(6), [1], [1, 3, 0, 2, 4, 5])
        self.check(8, numbers, range(6), [17], [5, 0, 2, 4, 1, 3])
        self.check(8, numbers, range(6), [33], [5, 1, 3, 0, 2, 4])
        self.check(8, numbers, range(6), [49], [0, 2, 4, 1, 3, 5])
        self.check(8, [7, 7, 7], range(3), [17], [0, 1, 2])

    def test_the_other_rows_come_behind_as_they_were(self):
        numbers = [9, 8, 7, 6, 5, 4]
        self.check(8, numbers, (1, 3, 5), [1], [5, 3, 1, 0, 2, 4])
        self.check(8, numbers, (1, 3, 5), [17], [1, 3, 5, 0, 2, 4])
        self.check(8, numbers, (), [1], [0, 1, 2, 3, 4, 5])
        self.check(8, numbers, (5,), [1], [5, 0, 1, 2, 3, 4])

    def test_several_keys(self):
        opened = opened_with(6, (0, 8, [1, 2, 1, 2, 1, 2]), (1, 16, [5, 5, 4, 65535, 5, 65535]),
                             (2, 64, [1, 0, 3, 2 ** 63, 2 ** 64 - 1, 7])) + chosen(0, 6, range(6), 6)
        for keys, made in (
                ([0, 1, 2], [2, 0, 4, 1, 5, 3]), ([0, 1], [2, 0, 4, 1, 3, 5]), ([16, 1], [1, 3, 5, 2, 0, 4]),
                ([0, 17, 2], [0, 4, 2, 5, 3, 1]), ([0, 33, 18], [2, 4, 0, 3, 5, 1]), ([0, 49, 34], [4, 0, 2, 1, 3, 5]),
                ([0, 17, 50], [0, 4, 2, 5, 3, 1]), ([2, 0], [1, 0, 2, 5, 3, 4]), ([0, 16], [0, 2, 4, 1, 3, 5]),
                ([16, 0, 16, 48, 0], [1, 3, 5, 0, 2, 4])):
            for p in (0, 1, 2, 3):
                self.check_made(6, opened, call("sort", 0, p, 6, keys), [0], (p, 16, made))

    def test_sixteen_keys(self):
        opened = opened_with(4, *((c, 8, [1, 1, 1, 1]) for c in range(15)), (15, 8, [4, 3, 2, 1]))
        opened += (call("logic", 0, 6, 6, 6, 6, 1),)
        for keys, made in ((list(range(16)), [3, 2, 1, 0]), (list(range(16, 32)), [0, 1, 2, 3]),
                           (list(range(48, 64)), [0, 1, 2, 3]), ([0] * 16, [0, 1, 2, 3]), ([15] * 16, [3, 2, 1, 0])):
            self.check_made(4, opened, call("sort", 0, 7, 6, keys), [0], (7, 16, made))

    def test_wrong_keys(self):
        opened = opened_with(2, (1, 8, [2, 1])) + chosen(0, 6, (0, 1), 2)
        for keys in ([], [-1], [64], [1, 64], [64, 1], [1, -2147483648], [2147483647], [9, 64], [64, 9], [1] * 17):
            for p in (1, 5):
                self.check_asked(2, opened, call("sort", 0, p, 6, keys), [-2])
        for keys in ([9], [1, 9], [9 + 16], [9 + 48, 1]):
            for p in (1, 9):
                self.check_asked(2, opened, call("sort", 0, p, 6, keys), [-3])
        for p, a in ((16, 6), (-1, 6), (1, 8), (1, -1)):
            for keys in ([1], [9]):
                self.check_asked(2, opened, call("sort", 0, p, a, keys), [-2])

    def test_an_empty_column_is_refused_for_no_rows_too(self):
        self.check_asked(2, opened_with(2, (1, 8, [2, 1])), call("sort", 0, 1, 6, [1, 2]), [-3])
        self.check_asked(0, opened_with(0), call("sort", 0, 1, 6, [1]), [-3])

    def test_no_rows_one_and_the_most(self):
        self.check(8, [], (), [1], [])
        self.check(8, [5], (0,), [1], [0])
        xs = [(i * 2654435761 >> 7) % 256 for i in range(4096)]
        opened = opened_with(4096, (1, 8, xs)) + (call("logic", 0, 6, 6, 6, 6, 1),)
        self.assertEqual(numbers_of(0, 2, 4096, *opened, call("sort", 0, 2, 6, [1])),
                         sorted(range(4096), key=lambda i: (xs[i], i)))
        self.assertEqual(numbers_of(0, 2, 4096, *opened, call("sort", 0, 2, 6, [17])),
                         sorted(range(4096), key=lambda i: (-xs[i], i)))

    def test_what_is_sorted_can_be_gathered(self):
        opened = opened_with(5, (1, 32, [5, 2 ** 31, 3, 4, 3])) + chosen(0, 6, range(5), 5)
        calls = (call("sort", 0, 2, 6, [33]), call("gather", 0, 1, 1, 2))
        self.assertEqual(numbers_of(0, 1, 5, *opened, *calls), [2 ** 31, 3, 3, 4, 5])


class Code(Checks):
    def test_each_once_rising(self):
        for width in WIDTHS:
            top = (1 << width) - 1
            opened = opened_with(6, (1, width, [7, top, 0, 7, 128, top]))
            for d in (0, 1, 15):
                self.check_made(6, opened, call("code", 0, d, 1), [4, 0, 7, 128, top], (d, 8, [1, 3, 0, 1, 2, 3]))

    def test_without_a_sign(self):
        self.check_made(3, opened_with(3, (1, 8, [200, 5, 127])), call("code", 0, 2, 1), [3, 5, 127, 200],
                        (2, 8, [2, 0, 1]))

    def test_no_rows_and_one(self):
        self.check_made(0, opened_with(0, (1, 16, [])), call("code", 0, 2, 1), [0], (2, 8, []))
        self.check_made(1, opened_with(1, (1, 64, [2 ** 63])), call("code", 0, 2, 1), [1, 2 ** 63], (2, 8, [0]))

    def test_256_and_257_different_numbers(self):
        numbers = [(i * 73) % 256 * 255 for i in range(257)]
        opened = opened_with(257, (1, 16, numbers))
        told = run(*opened, call("code", 0, 2, 1), call("tell", 0, 2), call("save", 0, 2, 8))
        self.assertEqual(told[-3:], [[256] + [255 * i for i in range(256)], [8], [257] + [x // 255 for x in numbers]])
        numbers[256] = 65535
        opened = opened_with(257, (1, 16, numbers), (2, 32, [5] * 257))
        for d, width in ((1, 16), (2, 32), (3, 0)):
            self.assertEqual(run(*opened, call("code", 0, d, 1), call("tell", 0, d))[-2:], [[-3], [width]])
        self.assertEqual(numbers_of(0, 1, 257, *opened, call("code", 0, 1, 1)), numbers)
        self.assertEqual(numbers_of(0, 2, 257, *opened, call("code", 0, 2, 1)), [5] * 257)

    def test_the_most_rows(self):
        numbers = [i // 16 for i in range(4096)]
        told = run(*opened_with(4096, (1, 16, numbers)), call("code", 0, 1, 1), call("save", 0, 1, 8))
        self.assertEqual(told[-2:], [[256] + list(range(256)), [4096] + numbers])
        told = run(*opened_with(4096, (1, 16, list(range(4096)))), call("code", 0, 1, 1), call("tell", 0, 1))
        self.assertEqual(told[-2:], [[-3], [16]])

    def test_what_is_coded_can_be_looked_up(self):
        numbers = [2 ** 63, 5, 2 ** 40, 5]
        opened = opened_with(4, (1, 64, numbers))
        out = last(*opened, call("code", 0, 1, 1))[1:]
        calls = (call("code", 0, 1, 1), call("lookup", 0, 1, 1, 64, out))
        self.assertEqual(numbers_of(0, 1, 4, *opened, *calls), numbers)


if __name__ == "__main__":
    unittest.main()
