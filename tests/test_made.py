"""Promises 12 to 17: mix, one, shift, funnel, width, neighbours."""

import unittest

from tests.line import WIDTHS, call, column, last, numbers_of, run, whole_store
from tests.model import MIX_WIDTHS, ONE_WIDTHS, mixed, nearest, nearest_signed, sign


def edges(width):
    half = 1 << (width - 1)
    several = [0, 1, 2, 3, 7, 8, 100, half - 2, half - 1, half, half + 1, half + 100, 2 * half - 2, 2 * half - 1,
               2 * half // 3, 2 * half // 5]
    if width == 64:
        several += [2 ** 31 - 1, 2 ** 31, 2 ** 32 - 1, 2 ** 32, 2 ** 32 + 5, 2 ** 63 + 2 ** 31]
    return several


class MadeColumns(unittest.TestCase):
    def check_two(self, name, how, width, xs, ys, made):
        """Made into a third column, into the first and into the last; nothing but that column is another then."""
        opened = (call("open", 0, len(xs)), column(0, 1, width, xs), column(0, 14, width, ys))
        for d in (0, 1, 14, 15):
            asked = call(name, 0, d, 1, 14, how)
            told = run(*opened, asked, call("tell", 0, d), call("tell", 0, 1), call("tell", 0, 14))
            self.assertEqual(told[-4:], [[0], [width], [width], [width]])
            for c, numbers in ((1, xs), (14, ys), (d, made)):
                if c == d:
                    numbers = made
                self.assertEqual(numbers_of(0, c, len(xs), *opened, asked), numbers, (name, how, width, d, c))

    def check_one(self, name, rest, width, xs, made, wide):
        opened = (call("open", 0, len(xs)), column(0, 1, width, xs))
        for d in (0, 1, 15):
            asked = call(name, 0, d, 1, *rest)
            self.assertEqual(run(*opened, asked, call("tell", 0, d))[-2:], [[0], [wide]])
            self.assertEqual(numbers_of(0, d, len(xs), *opened, asked), made, (name, rest, width, d))
            if d != 1:
                self.assertEqual(last(*opened, asked, call("tell", 0, 1)), [width])
                self.assertEqual(numbers_of(0, 1, len(xs), *opened, asked), xs)


class Mix(MadeColumns):
    def test_written_out_8(self):
        xs, ys = [200, 100, 5, 128], [100, 200, 5, 255]
        for how, made in (
                (0, [44, 44, 10, 127]), (1, [100, 156, 0, 129]), (2, [32, 32, 25, 128]),
                (3, [200, 200, 5, 255]), (4, [100, 100, 5, 128]), (5, [100, 100, 5, 255]), (6, [200, 200, 5, 128]),
                (7, [100, 100, 0, 127]), (8, [255, 255, 10, 255]), (9, [100, 0, 0, 0]),
                (10, [44, 44, 10, 128]), (11, [128, 127, 0, 129]), (12, [150, 150, 5, 192]),
                (16, [200, 156, 5, 128]), (17, [64, 64, 5, 128]), (18, [236, 236, 5, 255]),
                (19, [172, 172, 0, 127]), (20, [136, 36, 0, 0])):
            self.check_two("mix", how, 8, xs, ys, made)

    def test_written_out_16(self):
        xs, ys = [0x8000, 0x8000, 0xffff, 3, 0x4000], [0x8000, 0x7fff, 0xffff, 0xffff, 1]
        for how, made in (
                (8, [0xffff, 0xffff, 0xffff, 0xffff, 0x4001]), (9, [0, 1, 0, 0, 0x3fff]),
                (10, [0x8000, 0xffff, 0xfffe, 2, 0x4001]), (11, [0, 0x8000, 0, 4, 0x3fff]),
                (12, [0x8000, 0x8000, 0xffff, 0x8001, 0x2001]),
                (13, [0x4000, 0x3fff, 0xfffe, 2, 0]), (14, [0x4000, 0xc000, 0, 0xffff, 0]),
                (15, [0x8000, 0x8001, 0, 0, 1]), (16, [0x8000, 0x8000, 1, 0xfffd, 0x4000])):
            self.check_two("mix", how, 16, xs, ys, made)

    def test_written_out_32_and_64(self):
        self.check_two("mix", 16, 32, [7, 7, 7, 2 ** 31], [2 ** 31, 0, 2 ** 31 - 1, 2 ** 32 - 1],
                       [2 ** 32 - 7, 0, 7, 2 ** 31])
        xs, ys = [2 ** 32 - 1, 2 ** 32 + 3, 2 ** 63 + 2 ** 31], [2 ** 32 - 1, 5, 2 ** 31]
        self.check_two("mix", 21, 64, xs, ys, [2 ** 64 - 2 ** 33 + 1, 15, 2 ** 62])
        self.check_two("mix", 22, 64, xs, ys, [1, 15, 2 ** 62])
        self.check_two("mix", 22, 64, [2 ** 32 - 1, 2 ** 31], [3, 2 ** 31 - 1],
                       [2 ** 64 - 3, 2 ** 64 - 2 ** 62 + 2 ** 31])
        self.check_two("mix", 2, 64, [2 ** 63 + 1], [2 ** 63 + 3], [2 ** 63 * 4 % 2 ** 64 + 3])
        self.check_two("mix", 7, 64, [2 ** 64 - 1, 0], [0, 2 ** 64 - 1], [2 ** 64 - 1, 2 ** 64 - 1])

    def test_each_how_with_each_width(self):
        for width in WIDTHS:
            pairs = [(x, y) for x in edges(width) for y in edges(width)]
            half = len(pairs) // 2
            for part in (pairs[:half], pairs[half:]):
                xs, ys = [x for x, y in part], [y for x, y in part]
                opened = (call("open", 1, len(xs)), column(1, 0, width, xs), column(1, 1, width, ys))
                for how in range(23):
                    asked = call("mix", 1, 2, 0, 1, how)
                    if width in MIX_WIDTHS.get(how, WIDTHS):
                        made = [mixed(how, x, y, width) for x, y in part]
                        self.assertEqual(last(*opened, asked), [0])
                        self.assertEqual(numbers_of(1, 2, len(xs), *opened, asked), made, (how, width))
                    else:
                        self.assertEqual(last(*opened, asked), [-3], (how, width))

    def test_all_pairs_of_bytes(self):
        for how in range(23):
            if 8 not in MIX_WIDTHS.get(how, WIDTHS):
                continue
            for x in range(0, 256, 16):
                xs = [x + i // 256 for i in range(4096)]
                ys = [i % 256 for i in range(4096)]
                opened = (call("open", 0, 4096), column(0, 0, 8, xs), column(0, 1, 8, ys))
                made = [mixed(how, x, y, 8) for x, y in zip(xs, ys)]
                self.assertEqual(last(*opened, call("mix", 0, 0, 0, 1, how), call("save", 0, 0, 8))[1:], made, how)

    def test_a_column_with_itself(self):
        opened = (call("open", 0, 3), column(0, 0, 8, [1, 200, 16]))
        self.assertEqual(numbers_of(0, 0, 3, *opened, call("mix", 0, 0, 0, 0, 0)), [2, 144, 32])
        self.assertEqual(numbers_of(0, 0, 3, *opened, call("mix", 0, 0, 0, 0, 1)), [0, 0, 0])

    def test_over_a_column_of_another_width(self):
        opened = (call("open", 0, 1), column(0, 0, 8, [1]), column(0, 1, 8, [2]), column(0, 2, 64, [2 ** 63]))
        self.assertEqual(last(*opened, call("mix", 0, 2, 0, 1, 0), call("tell", 0, 2)), [8])

    def test_a_column_made_stays_when_its_sources_are_loaded_anew(self):
        opened = (call("open", 0, 2), column(0, 0, 8, [1, 2]), column(0, 1, 8, [0, 0]),
                  call("mix", 0, 2, 0, 1, 3), column(0, 0, 8, [9, 9]))
        self.assertEqual(numbers_of(0, 2, 2, *opened), [1, 2])


class One(MadeColumns):
    def test_written_out(self):
        for width, how, xs, made in (
                (8, 0, [0, 5, 127, 128, 255], [0, 5, 127, 128, 1]),
                (16, 0, [0x8000, 0xfffe, 0x7fff], [0x8000, 2, 0x7fff]),
                (32, 0, [2 ** 31, 2 ** 32 - 3], [2 ** 31, 3]),
                (64, 0, [2 ** 63, 2 ** 64 - 3, 2 ** 63 - 1], [2 ** 63, 3, 2 ** 63 - 1]),
                (32, 1, [0, 1, 2 ** 31, 2 ** 31 - 1, 0xffff], [32, 31, 0, 1, 16]),
                (64, 1, [0, 1, 2 ** 63, 2 ** 63 - 1, 0xffff], [64, 63, 0, 1, 48]),
                (8, 2, [0, 1, 128, 255, 0b1010101], [0, 1, 1, 8, 4]),
                (16, 2, [0xffff, 0x8001, 0xf0], [16, 2, 4]),
                (32, 2, [2 ** 32 - 1, 2 ** 31], [32, 1]),
                (64, 2, [2 ** 64 - 1, 2 ** 63 + 2 ** 32 + 1], [64, 3]),
                (8, 3, [0, 1, 128, 255, 0b11010000, 6], [0, 128, 1, 255, 0b1011, 96]),
                (8, 4, [0, 1, 128, 255, 12], [0, 1, 128, 1, 4]),
                (64, 4, [0, 2 ** 63, 2 ** 63 + 2 ** 40], [0, 2 ** 63, 2 ** 40]),
                (8, 5, [0, 1, 128, 255, 12], [255, 1, 255, 1, 7]),
                (16, 5, [0, 0x8000, 8], [0xffff, 0xffff, 15]),
                (32, 5, [0, 2 ** 31], [2 ** 32 - 1, 2 ** 32 - 1]),
                (64, 5, [0, 2 ** 63, 2 ** 40], [2 ** 64 - 1, 2 ** 64 - 1, 2 ** 41 - 1])):
            self.check_one("one", (how,), width, xs, made, width)

    def test_each_how_with_each_width(self):
        for width in WIDTHS:
            xs = edges(width) + [1 << k for k in range(width)] + [(1 << width) - (1 << k) for k in range(width)]
            opened = (call("open", 0, len(xs)), column(0, 0, width, xs))
            written = [f"{x:0{width}b}" for x in xs]
            expected = {
                0: [abs(sign(x, width)) for x in xs],
                1: [len(bits.split("1")[0]) for bits in written],
                2: [bits.count("1") for bits in written],
                3: [int(bits[::-1], 2) for bits in written],
                4: [1 << bits[::-1].find("1") if x else 0 for x, bits in zip(xs, written)],
                5: [(2 << bits[::-1].find("1")) - 1 if x else (1 << width) - 1 for x, bits in zip(xs, written)],
            }
            for how in range(6):
                if width in ONE_WIDTHS.get(how, WIDTHS):
                    made = numbers_of(0, 1, len(xs), *opened, call("one", 0, 1, 0, how))
                    self.assertEqual(made, expected[how], (how, width))
                else:
                    self.assertEqual(last(*opened, call("one", 0, 1, 0, how)), [-3], (how, width))

    def test_every_byte(self):
        opened = (call("open", 0, 256), column(0, 0, 8, list(range(256))))
        self.assertEqual(numbers_of(0, 0, 256, *opened, call("one", 0, 0, 0, 2)),
                         [f"{x:b}".count("1") for x in range(256)])
        self.assertEqual(numbers_of(0, 0, 256, *opened, call("one", 0, 0, 0, 3)),
                         [int(f"{x:08b}"[::-1], 2) for x in range(256)])


class Shift(MadeColumns):
    def test_written_out(self):
        xs = [0b10010110] * 6
        ys = [0, 1, 7, 8, 9, 255]
        for how, made in (
                (0, [0b10010110, 0b00101100, 0, 0, 0, 0]),
                (1, [0b10010110, 0b01001011, 1, 0, 0, 0]),
                (2, [0b10010110, 0b11001011, 255, 255, 255, 255]),
                (3, [0b10010110, 0b00101101, 0b01001011, 0b10010110, 0b00101101, 0b01001011]),
                (4, [0b10010110, 0b01001011, 0b00101101, 0b10010110, 0b01001011, 0b00101101])):
            self.check_two("shift", how, 8, xs, ys, made)
        self.check_two("shift", 2, 8, [0b01010110] * 4, [1, 6, 7, 255], [0b00101011, 1, 0, 0])

    def test_each_how_with_each_width(self):
        for width in WIDTHS:
            top = (1 << width) - 1
            places = sorted({0, 1, 2, 7, 8, 9, width - 1, width, width + 1, 2 * width - 1, 2 * width, top - 1, top,
                             1 << (width - 1)})
            pairs = [(x, y) for x in edges(width) for y in places if y <= top]
            xs, ys = [x for x, y in pairs], [y for x, y in pairs]
            written = [f"{x:0{width}b}" for x in xs]
            expected = {
                0: [int((bits + "0" * min(y, width))[-width:], 2) for bits, y in zip(written, ys)],
                1: [int(("0" * min(y, width) + bits)[:width], 2) for bits, y in zip(written, ys)],
                2: [int((bits[0] * min(y, width) + bits)[:width], 2) for bits, y in zip(written, ys)],
                3: [int(bits[y % width:] + bits[:y % width], 2) for bits, y in zip(written, ys)],
                4: [int((bits + bits)[width - y % width:2 * width - y % width], 2) for bits, y in zip(written, ys)],
            }
            opened = (call("open", 0, len(xs)), column(0, 0, width, xs), column(0, 1, width, ys))
            if len(opened[1]) + len(opened[2]) > 15900:
                self.fail("more than a list may hold")
            for how in range(5):
                made = numbers_of(0, 2, len(xs), *opened, call("shift", 0, 2, 0, 1, how))
                self.assertEqual(made, expected[how], (how, width))


class Funnel(unittest.TestCase):
    def opened(self, width, xs, ys, ks):
        return (call("open", 0, len(xs)), column(0, 0, width, xs), column(0, 1, width, ys),
                column(0, 15, width, ks))

    def test_written_out(self):
        opened = self.opened(16, [0x1234] * 5, [0xabcd] * 5, [0, 4, 15, 16, 0xfff8])
        self.assertEqual(numbers_of(0, 2, 5, *opened, call("funnel", 0, 2, 0, 1, 15, 0)),
                         [0x1234, 0x234a, 0x55e6, 0x1234, 0x34ab])
        self.assertEqual(numbers_of(0, 2, 5, *opened, call("funnel", 0, 2, 0, 1, 15, 1)),
                         [0xabcd, 0x4abc, 0x2469, 0xabcd, 0x34ab])

    def test_each_width(self):
        for width in (16, 32, 64):
            ks = list(range(width)) + [width, width + 1, 2 * width + 3, (1 << width) - 1, 1 << (width - 1)]
            xs = [edges(width)[i % 16] for i in range(len(ks))]
            ys = [edges(width)[(i * 5 + 3) % 16] for i in range(len(ks))]
            written = [f"{x:0{width}b}{y:0{width}b}" for x, y in zip(xs, ys)]
            up = [int(bits[k % width:k % width + width], 2) for bits, k in zip(written, ks)]
            down = [int(bits[width - k % width:2 * width - k % width], 2) for bits, k in zip(written, ks)]
            opened = self.opened(width, xs, ys, ks)
            for d in (0, 1, 15, 7):
                for how, made in ((0, up), (1, down)):
                    asked = call("funnel", 0, d, 0, 1, 15, how)
                    self.assertEqual(run(*opened, asked, call("tell", 0, d))[-2:], [[0], [width]])
                    self.assertEqual(numbers_of(0, d, len(ks), *opened, asked), made, (width, how, d))

    def test_not_for_8(self):
        opened = self.opened(8, [1], [2], [3])
        for how in (0, 1):
            self.assertEqual(last(*opened, call("funnel", 0, 2, 0, 1, 15, how)), [-3])

    def test_all_three_as_wide(self):
        opened = (call("open", 0, 1),) + tuple(column(0, i, width, [1]) for i, width in enumerate(WIDTHS))
        for c in range(4):
            for e in range(4):
                for f in range(4):
                    answer = 0 if c == e == f and c > 0 else -3
                    self.assertEqual(last(*opened, call("funnel", 0, 9, c, e, f, 0)), [answer], (c, e, f))

    def test_one_column_three_times(self):
        opened = (call("open", 0, 2), column(0, 0, 16, [0x8001, 4]))
        self.assertEqual(numbers_of(0, 0, 2, *opened, call("funnel", 0, 0, 0, 0, 0, 0)), [0x0003, 0x40])


class Width(MadeColumns):
    def test_written_out(self):
        for width, wide, how, xs, made in (
                (16, 8, 0, [0x1ff, 0x80, 0xff00], [0xff, 0x80, 0]),
                (16, 8, 1, [127, 128, 0xff80, 0xff7f, 0x8000, 0xffff, 0x7fff], [127, 127, 128, 128, 128, 255, 127]),
                (16, 8, 2, [255, 256, 0xffff, 3], [255, 255, 255, 3]),
                (16, 8, 3, [255, 256, 0xffff, 0x8000, 0x7fff, 3], [255, 255, 0, 0, 255, 3]),
                (8, 16, 0, [0x80, 0x7f, 0xff], [0x80, 0x7f, 0xff]),
                (8, 16, 1, [0x80, 0x7f, 0xff], [0xff80, 0x7f, 0xffff]),
                (8, 16, 2, [0x80, 0x7f, 0xff], [0x80, 0x7f, 0xff]),
                (8, 16, 3, [0x80, 0x7f, 0xff], [0, 0x7f, 0]),
                (8, 8, 0, [0x80, 0x7f], [0x80, 0x7f]), (8, 8, 1, [0x80, 0x7f], [0x80, 0x7f]),
                (8, 8, 2, [0x80, 0x7f], [0x80, 0x7f]), (8, 8, 3, [0x80, 0x7f], [0, 0x7f]),
                (64, 32, 1, [2 ** 63, 2 ** 31, 2 ** 64 - 1], [2 ** 31, 2 ** 31 - 1, 2 ** 32 - 1]),
                (32, 64, 1, [2 ** 31, 5], [2 ** 64 - 2 ** 31, 5])):
            self.check_one("width", (wide, how), width, xs, made, wide)

    def test_each_how_from_each_width_to_each(self):
        for width in WIDTHS:
            xs = edges(width)
            for other in WIDTHS:
                xs += [x for x in edges(other) if x < 1 << width]
                xs += [(1 << width) - x for x in edges(other) if 0 < x <= 1 << width]
            for wide in WIDTHS:
                top = (1 << wide) - 1
                expected = (
                    [x & top for x in xs], [nearest_signed(sign(x, width), wide) for x in xs],
                    [nearest(x, 0, top) for x in xs], [nearest(sign(x, width), 0, top) for x in xs])
                for how in range(4):
                    self.check_one("width", (wide, how), width, xs, expected[how], wide)


class Neighbours(MadeColumns):
    def test_written_out(self):
        xs, ys = [1, 2, 0x7fff, 1], [0x8000, 0xffff, 3, 10]
        for how, made in ((0, [3, 0x8000, 0x7fff, 13]), (1, [0xffff, 0x7ffe, 0x8001, 0xfff9]),
                          (2, [3, 0x7fff, 0x8000, 13]), (3, [0xffff, 0x7ffe, 0x8001, 0xfff9])):
            self.check_two("neighbours", how, 16, xs, ys, made)
        self.check_two("neighbours", 3, 16, [0x8000, 1], [0x7fff, 0xffff], [0x8000, 0x7fff])
        self.check_two("neighbours", 1, 16, [0x8000, 1], [0x7fff, 0xffff], [0x7fff, 0x8000])

    def test_an_odd_number_of_rows(self):
        self.check_two("neighbours", 0, 16, [1, 2, 3], [10, 20, 30], [3, 13, 50])
        self.check_two("neighbours", 1, 32, [1, 2, 3], [10, 20, 30], [2 ** 32 - 1, 2 ** 32 - 7, 2 ** 32 - 10])
        self.check_two("neighbours", 0, 32, [2 ** 32 - 1], [2], [1])

    def test_each_how_with_each_width(self):
        for width in WIDTHS:
            opened = (call("open", 0, 2), column(0, 0, width, [1, 2]), column(0, 1, width, [3, 4]))
            for how in range(4):
                answer = 0 if width in ((16, 32) if how < 2 else (16,)) else -3
                self.assertEqual(last(*opened, call("neighbours", 0, 2, 0, 1, how)), [answer], (width, how))

    def test_edges(self):
        for width, how in ((16, 0), (16, 1), (16, 2), (16, 3), (32, 0), (32, 1)):
            z = [number for x in edges(width) for y in edges(width) for number in (x, y)]
            half = len(z) // 2
            opened = (call("open", 0, half), column(0, 0, width, z[:half]), column(0, 1, width, z[half:]))
            mix = {0: 0, 1: 1, 2: 10, 3: 11}[how]
            made = [mixed(mix, x, y, width) for x in edges(width) for y in edges(width)]
            self.assertEqual(numbers_of(0, 2, half, *opened, call("neighbours", 0, 2, 0, 1, how)), made)

    def test_a_column_with_itself(self):
        opened = (call("open", 0, 3), column(0, 0, 16, [1, 2, 3]))
        self.assertEqual(numbers_of(0, 0, 3, *opened, call("neighbours", 0, 0, 0, 0, 0)), [3, 4, 5])


class Rows(unittest.TestCase):
    FORMS = (("mix", (0, 1, 0)), ("one", (0, 0)), ("shift", (0, 1, 0)), ("funnel", (0, 1, 0, 0)),
             ("width", (0, 8, 0)), ("neighbours", (0, 1, 0)))

    def test_no_rows(self):
        opened = (call("open", 0, 0), column(0, 0, 16, []), column(0, 1, 16, []))
        for name, rest in self.FORMS:
            wide = 8 if name == "width" else 16
            self.assertEqual(run(*opened, call(name, 0, 5, *rest), call("tell", 0, 5), call("save", 0, 5, 1))[-3:],
                             [[0], [wide], [0]], name)

    def test_the_most_rows(self):
        low = [i % 251 for i in range(4096)]
        opened = (call("open", 0, 4096), column(0, 2, 8, low), call("width", 0, 0, 2, 16, 0),
                  call("mix", 0, 1, 0, 0, 0))
        z = low + [2 * x for x in low]
        expected = {
            "mix": [3 * x for x in low],
            "one": low,
            "shift": [x << min(2 * x, 16) & 0xffff for x in low],
            "funnel": [((x << 16 | 2 * x) << x % 16) >> 16 & 0xffff for x in low],
            "width": low,
            "neighbours": [z[2 * i] + z[2 * i + 1] for i in range(4096)],
        }
        for name, rest in self.FORMS:
            self.assertEqual(numbers_of(0, 5, 4096, *opened, call(name, 0, 5, *rest)), expected[name], name)

    def test_sets_and_other_columns_stay(self):
        opened = (call("open", 0, 3), column(0, 0, 16, [1, 2, 3]), column(0, 1, 16, [9, 8, 7]),
                  call("where", 0, 0, 0, 4, 1), call("where", 0, 7, 1, 0, 9))
        before = whole_store(0, 3, *opened)
        for name, rest in self.FORMS:
            after = whole_store(0, 3, *opened, call(name, 0, 5, *rest))
            self.assertEqual(after[1], before[1])
            self.assertEqual(after[0][:10] + after[0][12:], before[0][:10] + before[0][12:])
            self.assertNotEqual(after[0][10:12], before[0][10:12])


if __name__ == "__main__":
    unittest.main()
