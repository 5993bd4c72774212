"""Promises 1 to 4: open, load, save, tell."""

import unittest

from tests.line import WIDTHS, call, column, last, numbers_of, pack, rows_of, run, unpack, whole_store

EMPTY = [[0], [-3]] * 16, [[]] * 8


class Open(unittest.TestCase):
    def test_new_store_has_empty_columns_and_sets(self):
        for o in (0, 1):
            for rows in (0, 1, 9):
                self.assertEqual(whole_store(o, rows, call("open", o, rows)), EMPTY)

    def test_rows_from_0_to_4096(self):
        for rows, answer in ((0, 0), (1, 0), (4095, 0), (4096, 0), (4097, -2), (-1, -2),
                             (2147483647, -2), (-2147483648, -2)):
            self.assertEqual(run(call("open", 0, rows)), [[answer]])

    def test_the_most_rows_are_there(self):
        numbers = [i % 256 for i in range(4096)]
        opened = (call("open", 0, 4096), column(0, 0, 8, numbers))
        self.assertEqual(last(*opened, call("save", 0, 0, 8)), [4096] + numbers)
        self.assertEqual(last(*opened, call("where", 0, 0, 0, 5, 0)), [4096])

    def test_opened_again_all_is_new(self):
        before = (call("open", 0, 3), column(0, 0, 8, [1, 2, 3]), column(0, 15, 64, [1, 2, 3]),
                  call("where", 0, 0, 0, 5, 0), call("where", 0, 7, 0, 5, 2))
        for rows in (0, 3, 5):
            self.assertEqual(whole_store(0, rows, *before, call("open", 0, rows)), EMPTY)

    def test_opened_again_the_other_store_stays(self):
        before = (call("open", 0, 2), call("open", 1, 3), column(1, 4, 16, [7, 8, 9]), call("where", 1, 2, 4, 4, 7))
        after = before + (call("open", 0, 4),)
        self.assertEqual(numbers_of(1, 4, 3, *after), [7, 8, 9])
        self.assertEqual(rows_of(1, 2, 3, *after), [1, 2])

    def test_refused_again_all_stays(self):
        before = (call("open", 0, 3), column(0, 0, 8, [1, 2, 3]), call("where", 0, 4, 0, 5, 2))
        for rows in (-1, 4097):
            self.assertEqual(last(*before, call("open", 0, rows)), [-2])
            self.assertEqual(whole_store(0, 3, *before, call("open", 0, rows)), whole_store(0, 3, *before))

    def test_refused_first_then_opened(self):
        self.assertEqual(run(call("open", 0, 4097), call("open", 0, 1), call("tell", 0, 0)), [[-2], [0], [0]])


class Load(unittest.TestCase):
    def test_lowest_bits_come_first(self):
        given = [0b10110101, 0b11]
        self.assertEqual(numbers_of(0, 0, 3, call("open", 0, 3), call("load", 0, 0, 8, 3, given)), [5, 6, 6])
        given = [0x21, 0x43, 0x65]
        self.assertEqual(numbers_of(0, 0, 2, call("open", 0, 2), call("load", 0, 0, 16, 12, given)), [0x321, 0x654])
        given = [1, 2, 3, 4, 5, 6, 7, 0x88]
        self.assertEqual(numbers_of(0, 0, 1, call("open", 0, 1), call("load", 0, 0, 64, 64, given)),
                         [0x8807060504030201])

    def test_bits_over_count_nothing(self):
        self.assertEqual(numbers_of(0, 0, 3, call("open", 0, 3), call("load", 0, 0, 8, 1, [0b11111101])), [1, 0, 1])
        self.assertEqual(numbers_of(0, 0, 1, call("open", 0, 1), call("load", 0, 0, 16, 9, [255, 255])), [511])

    def test_every_width_with_all_its_bits(self):
        for width in WIDTHS:
            for bits in range(1, width + 1):
                top = (1 << bits) - 1
                numbers = [top, 0, 1 << (bits - 1), 1, top // 3]
                calls = (call("open", 0, 5), call("load", 0, 2, width, bits, pack(numbers, bits)))
                self.assertEqual(run(*calls, call("tell", 0, 2)), [[0], [0], [width]])
                self.assertEqual(numbers_of(0, 2, 5, *calls), numbers)

    def test_no_rows(self):
        for width in WIDTHS:
            self.assertEqual(run(call("open", 0, 0), call("load", 0, 15, width, width, []), call("tell", 0, 15)),
                             [[0], [0], [width]])
        self.assertEqual(last(call("open", 0, 0), call("load", 0, 0, 8, 8, [0])), [-2])

    def test_most_rows_with_many_bits(self):
        numbers = [(i * 2654435761) % 2 ** 31 for i in range(4096)]
        calls = (call("open", 0, 4096), call("load", 0, 0, 32, 31, pack(numbers, 31)))
        self.assertEqual(numbers_of(0, 0, 4096, *calls), numbers)

    def test_loaded_again(self):
        calls = (call("open", 0, 2), column(0, 0, 8, [1, 2]), column(0, 0, 32, [2 ** 31, 4]))
        self.assertEqual(last(*calls, call("tell", 0, 0)), [32])
        self.assertEqual(numbers_of(0, 0, 2, *calls), [2 ** 31, 4])

    def test_how_many_bytes(self):
        for rows, bits, length in ((3, 8, 3), (3, 3, 2), (8, 1, 1), (9, 1, 2), (5, 7, 5), (1, 1, 1)):
            for given in range(0, 12):
                answer = 0 if given == length else -2
                self.assertEqual(last(call("open", 0, rows), call("load", 0, 0, 8, bits, [0] * given)), [answer])


class Save(unittest.TestCase):
    def test_packed_with_zeros_over(self):
        calls = (call("open", 0, 3), column(0, 0, 8, [5, 6, 6]))
        self.assertEqual(last(*calls, call("save", 0, 0, 3)), [2, 0b10110101, 0b1])
        self.assertEqual(last(*calls, call("save", 0, 0, 8)), [3, 5, 6, 6])
        self.assertEqual(last(*calls, call("save", 0, 0, 12)), [5, 5, 0x60, 0, 6, 0])

    def test_every_bits(self):
        for bits in range(1, 65):
            top = (1 << bits) - 1
            numbers = [top, 1, 0, 1 << (bits - 1), top]
            calls = (call("open", 0, 5), column(0, 0, 64, numbers))
            size = (5 * bits + 7) // 8
            self.assertEqual(last(*calls, call("save", 0, 0, bits)), [size] + pack(numbers, bits))
            if bits > 1:
                self.assertEqual(last(*calls, call("save", 0, 0, bits - 1)), [-3])

    def test_more_bits_than_the_width(self):
        saved = last(call("open", 0, 2), column(0, 0, 8, [255, 128]), call("save", 0, 0, 64))
        self.assertEqual(saved, [16, 255, 0, 0, 0, 0, 0, 0, 0, 128, 0, 0, 0, 0, 0, 0, 0])

    def test_a_number_with_more_bits(self):
        for row in range(3):
            numbers = [1, 1, 1]
            numbers[row] = 2
            calls = (call("open", 0, 3), column(0, 0, 8, numbers))
            self.assertEqual(last(*calls, call("save", 0, 0, 1)), [-3])
            self.assertEqual(last(*calls, call("save", 0, 0, 2))[0], 1)

    def test_no_rows(self):
        self.assertEqual(last(call("open", 0, 0), column(0, 0, 16, []), call("save", 0, 0, 1)), [0])

    def test_most_rows(self):
        numbers = [(i * 40503) % 2 ** 16 for i in range(4096)]
        saved = last(call("open", 0, 4096), column(0, 0, 16, numbers), call("save", 0, 0, 64))
        self.assertEqual(saved[0], 32768)
        self.assertEqual(unpack(saved[1:], 64, 4096), numbers)

    def test_saving_changes_nothing(self):
        calls = (call("open", 0, 2), column(0, 0, 8, [3, 200]), call("where", 0, 1, 0, 4, 3))
        self.assertEqual(whole_store(0, 2, *calls, call("save", 0, 0, 8)), whole_store(0, 2, *calls))


class Tell(unittest.TestCase):
    def test_width_of_each_column(self):
        calls = [call("open", 0, 1)]
        for c in range(16):
            if c % 5 != 4:
                calls.append(column(0, c, WIDTHS[c % 5], [1]))
        for c in range(16):
            self.assertEqual(last(*calls, call("tell", 0, c)), [0 if c % 5 == 4 else WIDTHS[c % 5]])


class TwoStores(unittest.TestCase):
    def test_each_has_its_own_rows_columns_and_sets(self):
        calls = (call("open", 0, 2), call("open", 1, 3),
                 column(0, 0, 8, [1, 2]), column(1, 0, 16, [300, 400, 500]),
                 call("where", 0, 0, 0, 0, 2), call("where", 1, 0, 0, 4, 300))
        self.assertEqual(numbers_of(0, 0, 2, *calls), [1, 2])
        self.assertEqual(numbers_of(1, 0, 3, *calls), [300, 400, 500])
        self.assertEqual(rows_of(0, 0, 2, *calls), [1])
        self.assertEqual(rows_of(1, 0, 3, *calls), [1, 2])
        self.assertEqual(run(*calls, call("tell", 0, 0), call("tell", 1, 0))[-2:], [[8], [16]])


if __name__ == "__main__":
    unittest.main()
