"""The document told a second time, in other words than the program's: what the tests hold long lines against."""

from tests.line import WIDTHS, pack, unpack

BYTE = (8,)
SIXTEEN = (16,)
MIX_WIDTHS = {
    8: (8, 16), 9: (8, 16), 10: (8, 16), 11: (8, 16), 12: (8, 16),
    13: SIXTEEN, 14: SIXTEEN, 15: SIXTEEN, 16: (8, 16, 32), 21: (64,), 22: (64,),
}
ONE_WIDTHS = {1: (32, 64), 3: BYTE}


def sign(x, width):
    return int.from_bytes(x.to_bytes(width // 8, "little"), "little", signed=True)


def nearest(value, low, high):
    return low if value < low else high if value > high else value


def nearest_signed(value, width):
    return nearest(value, -(1 << (width - 1)), (1 << (width - 1)) - 1) & ((1 << width) - 1)


def mixed(how, x, y, w):
    """What the document asks of mix, in other words than the program's."""
    top = (1 << w) - 1
    s, t = sign(x, w), sign(y, w)
    return {
        0: lambda: x + y & top,
        1: lambda: x + (top ^ y) + 1 & top,
        2: lambda: x * y & top,
        3: lambda: sorted([x, y])[1],
        4: lambda: sorted([x, y])[0],
        5: lambda: sorted([s, t])[1] & top,
        6: lambda: sorted([s, t])[0] & top,
        7: lambda: sorted([x, y])[1] - sorted([x, y])[0],
        8: lambda: nearest(x + y, 0, top),
        9: lambda: nearest(x - y, 0, top),
        10: lambda: nearest_signed(s + t, w),
        11: lambda: nearest_signed(s - t, w),
        12: lambda: (x + y) // 2 + (x + y) % 2,
        13: lambda: x * y // 2 ** 16,
        14: lambda: s * t // 2 ** 16 & top,
        15: lambda: (s * t + 16384) // 32768 & top,
        16: lambda: x * ((t > 0) - (t < 0)) & top,
        17: lambda: x & y,
        18: lambda: x + y - (x & y),
        19: lambda: x + y - 2 * (x & y),
        20: lambda: x - (x & y),
        21: lambda: (x & 0xffffffff) * (y & 0xffffffff),
        22: lambda: sign(x & 0xffffffff, 32) * sign(y & 0xffffffff, 32) & top,
    }[how]()


COLUMN = range(16)
SET = range(8)


class Refused(Exception):
    """A refusal, with its number."""


def within(*pairs):
    if any(number not in span for number, span in pairs):
        raise Refused(-2)


def fit(held):
    if not held:
        raise Refused(-3)


def bits_of(x, width):
    """The lowest bit last, as numbers are written."""
    return f"{x:0{width}b}"


def stands(how, x, y, width):
    if how > 5:
        x, y, how = sign(x, width), sign(y, width), how - 4
    return (x == y, x != y, x < y, not y < x, y < x, not x < y)[how]


def singled(how, x, w):
    bits = bits_of(x, w)
    lowest = bits[::-1].find("1")
    return (
        lambda: abs(sign(x, w)),
        lambda: len(bits) - len(bits.lstrip("0")),
        lambda: bits.count("1"),
        lambda: int(bits[::-1], 2),
        lambda: 1 << lowest if x else 0,
        lambda: (2 << lowest) - 1 if x else (1 << w) - 1,
    )[how]()


def shifted(how, x, y, w):
    bits = bits_of(x, w)
    far, turn = min(y, w), y % w
    return int((
        (bits + "0" * far)[far:],
        ("0" * far + bits)[:w],
        (bits[0] * far + bits)[:w],
        bits[turn:] + bits[:turn],
        (bits + bits)[w - turn:2 * w - turn],
    )[how], 2)


def funneled(how, x, y, k, w):
    bits = bits_of(x, w) + bits_of(y, w)
    k %= w
    return int(bits[k:k + w] if how == 0 else bits[w - k:2 * w - k], 2)


def widened(how, x, w, width):
    top = (1 << width) - 1
    return (x & top, nearest_signed(sign(x, w), width), nearest(x, 0, top), nearest(sign(x, w), 0, top))[how]


class Column:
    def __init__(self, width, numbers):
        self.width = width
        self.numbers = list(numbers)


class Store:
    def __init__(self, n):
        self.n = n
        self.columns = {}
        self.sets = {x: set() for x in SET}


class Model:
    """Each method is one call of the document: o, then what the call has, a list where a list stands."""

    def __init__(self):
        self.stores = {}

    def answer(self, name, o, *given):
        try:
            if name == "open":
                return self.open(o, *given)
            return getattr(self, name)(self.stores[o], *given)
        except Refused as refusal:
            return [refusal.args[0]]

    def read(self, s, c):
        fit(c in s.columns)
        return s.columns[c]

    def alike(self, s, *columns):
        several = [self.read(s, c) for c in columns]
        fit(len({column.width for column in several}) == 1)
        return several

    def choose(self, s, x, rows):
        s.sets[x] = set(rows)
        return [len(s.sets[x])]

    def make(self, s, d, width, numbers, answer=0):
        s.columns[d] = Column(width, numbers)
        assert len(s.columns[d].numbers) == s.n
        return [answer]

    def open(self, o, n):
        within((n, range(4097)))
        self.stores[o] = Store(n)
        return [0]

    def load(self, s, c, width, bits, given):
        within((c, COLUMN), (width, WIDTHS), (bits, range(1, width + 1)), (len(given), [-(-s.n * bits // 8)]))
        return self.make(s, c, width, unpack(given, bits, s.n))

    def save(self, s, c, bits):
        within((c, COLUMN), (bits, range(1, 65)))
        numbers = self.read(s, c).numbers
        fit(all(x < 1 << bits for x in numbers))
        out = pack(numbers, bits)
        return [len(out)] + out

    def tell(self, s, c):
        within((c, COLUMN))
        return [s.columns[c].width if c in s.columns else 0]

    def where(self, s, x, c, how, value):
        within((x, SET), (c, COLUMN), (how, range(10)))
        w = self.read(s, c).width
        value &= (1 << w) - 1
        return self.choose(s, x, (i for i, y in enumerate(s.columns[c].numbers) if stands(how, y, value, w)))

    def match(self, s, x, c, e, how):
        within((x, SET), (c, COLUMN), (e, COLUMN), (how, range(10)))
        u, v = self.alike(s, c, e)
        return self.choose(s, x, (i for i in range(s.n) if stands(how, u.numbers[i], v.numbers[i], u.width)))

    def bits(self, s, x, c, how, mask):
        within((x, SET), (c, COLUMN), (how, range(3)))
        w = self.read(s, c).width
        mask &= (1 << w) - 1
        return self.choose(s, x, (i for i, y in enumerate(s.columns[c].numbers)
                                  if (y & mask, not y & mask, not mask & ~y)[how]))

    def among(self, s, x, c, m, bounds):
        within((x, SET), (c, COLUMN), (m, range(1, 17)))
        numbers = self.read(s, c).numbers
        spans = [range(bounds[2 * i], bounds[2 * i + 1] + 1) for i in range(m)]
        return self.choose(s, x, (i for i, y in enumerate(numbers) if any(y in span for span in spans)))

    def logic(self, s, x, a, b, c, table):
        within((x, SET), (a, SET), (b, SET), (c, SET), (table, range(256)))
        places = [4 * (i in s.sets[a]) + 2 * (i in s.sets[b]) + (i in s.sets[c]) for i in range(s.n)]
        return self.choose(s, x, (i for i in range(s.n) if bits_of(table, 8)[7 - places[i]] == "1"))

    def count(self, s, a):
        within((a, SET))
        return [len(s.sets[a])]

    def find(self, s, c, given):
        within((c, COLUMN), (len(given), range(1, 17)))
        column = self.read(s, c)
        fit(column.width == 8)
        return [bytes(column.numbers).find(bytes(given))]

    def mix(self, s, d, c, e, how):
        within((d, COLUMN), (c, COLUMN), (e, COLUMN), (how, range(23)))
        u, v = self.alike(s, c, e)
        fit(u.width in MIX_WIDTHS.get(how, WIDTHS))
        return self.make(s, d, u.width, [mixed(how, x, y, u.width) for x, y in zip(u.numbers, v.numbers)])

    def one(self, s, d, c, how):
        within((d, COLUMN), (c, COLUMN), (how, range(6)))
        w = self.read(s, c).width
        fit(w in ONE_WIDTHS.get(how, WIDTHS))
        return self.make(s, d, w, [singled(how, x, w) for x in s.columns[c].numbers])

    def shift(self, s, d, c, e, how):
        within((d, COLUMN), (c, COLUMN), (e, COLUMN), (how, range(5)))
        u, v = self.alike(s, c, e)
        return self.make(s, d, u.width, [shifted(how, x, y, u.width) for x, y in zip(u.numbers, v.numbers)])

    def funnel(self, s, d, c, e, f, how):
        within((d, COLUMN), (c, COLUMN), (e, COLUMN), (f, COLUMN), (how, range(2)))
        u, v, t = self.alike(s, c, e, f)
        fit(u.width > 8)
        rows = zip(u.numbers, v.numbers, t.numbers)
        return self.make(s, d, u.width, [funneled(how, x, y, k, u.width) for x, y, k in rows])

    def width(self, s, d, c, width, how):
        within((d, COLUMN), (c, COLUMN), (width, WIDTHS), (how, range(4)))
        column = self.read(s, c)
        return self.make(s, d, width, [widened(how, x, column.width, width) for x in column.numbers])

    def neighbours(self, s, d, c, e, how):
        within((d, COLUMN), (c, COLUMN), (e, COLUMN), (how, range(4)))
        u, v = self.alike(s, c, e)
        fit(u.width == 16 or u.width == 32 and how < 2)
        z = u.numbers + v.numbers
        mix = (0, 1, 10, 11)[how]
        return self.make(s, d, u.width, [mixed(mix, z[2 * i], z[2 * i + 1], u.width) for i in range(s.n)])

    def blend(self, s, d, c, e, a):
        within((d, COLUMN), (c, COLUMN), (e, COLUMN), (a, SET))
        both = self.alike(s, c, e)
        return self.make(s, d, both[0].width, [both[i in s.sets[a]].numbers[i] for i in range(s.n)])

    def slide(self, s, d, c, e, k):
        within((d, COLUMN), (c, COLUMN), (e, COLUMN), (k, range(s.n + 1)))
        u, v = self.alike(s, c, e)
        z = dict(enumerate(u.numbers + v.numbers))
        return self.make(s, d, u.width, [z[i + k] for i in range(s.n)])

    def sum(self, s, c, a, how):
        within((c, COLUMN), (a, SET), (how, range(2)))
        column = self.read(s, c)
        total = 0
        for i in s.sets[a]:
            total += sign(column.numbers[i], column.width) if how else column.numbers[i]
        return [len(s.sets[a]), total & 2 ** 64 - 1, total >> 64 & 2 ** 64 - 1]

    def least(self, s, c, a, how):
        within((c, COLUMN), (a, SET), (how, range(4)))
        column = self.read(s, c)
        best = -1
        for i in sorted(s.sets[a]):
            if best < 0 or stands((2, 4, 6, 8)[how], column.numbers[i], column.numbers[best], column.width):
                best = i
        return [best]

    def apart(self, s, c, e):
        within((c, COLUMN), (e, COLUMN))
        u, v = self.alike(s, c, e)
        fit(u.width == 8)
        sums = [0] * ((s.n + 7) // 8)
        for i in range(s.n):
            sums[i // 8] += mixed(7, u.numbers[i], v.numbers[i], 8)
        return [len(sums)] + sums

    def nearest(self, s, c, four):
        within((c, COLUMN))
        column = self.read(s, c)
        fit(column.width == 8 and s.n > 3)
        far = {}
        for i in range(s.n - 3):
            far.setdefault(sum(mixed(7, column.numbers[i + k], four[k], 8) for k in range(4)), i)
        return [far[min(far)]]

    def dot(self, s, c, e, how):
        within((c, COLUMN), (e, COLUMN), (how, range(6)))
        u, v = self.alike(s, c, e)
        fit(u.width == (8, 8, 16, 16, 64, 64)[how])
        if how > 3:
            return self.wide_dot(s, u, v, how)
        sums = [0] * 16
        together = 4 if how < 2 else 2
        for j in range(s.n // (16 * together) + 1):
            for i in range(16):
                first = 16 * together * j + together * i
                for row in range(first, min(first + together, s.n)):
                    x = u.numbers[row] if how < 2 else sign(u.numbers[row], 16)
                    sums[i] += x * sign(v.numbers[row], u.width)
                if how % 2:
                    sums[i] = nearest(sums[i], -2 ** 31, 2 ** 31 - 1)
        return [16] + [total & 2 ** 32 - 1 for total in sums]

    def wide_dot(self, s, u, v, how):
        sums = [0] * 8
        for i in range(s.n):
            product = (u.numbers[i] & 2 ** 52 - 1) * (v.numbers[i] & 2 ** 52 - 1)
            sums[i % 8] += divmod(product, 2 ** 52)[5 - how]
        return [8] + [total & 2 ** 64 - 1 for total in sums]

    def pick(self, s, d, c, a):
        within((d, COLUMN), (c, COLUMN), (a, SET))
        column = self.read(s, c)
        numbers = [0] * s.n
        for k, i in enumerate(sorted(s.sets[a])):
            numbers[k] = column.numbers[i]
        return self.make(s, d, column.width, numbers, len(s.sets[a]))

    def kept(self, s, d, column):
        old = s.columns.get(d, Column(column.width, [0] * s.n))
        fit(old.width == column.width)
        return dict(enumerate(old.numbers))

    def place(self, s, d, c, a):
        within((d, COLUMN), (c, COLUMN), (a, SET))
        column = self.read(s, c)
        kept = self.kept(s, d, column)
        kept.update({i: column.numbers[k] for k, i in enumerate(sorted(s.sets[a]))})
        return self.make(s, d, column.width, kept.values(), len(s.sets[a]))

    def lookup(self, s, d, c, width, table):
        within((d, COLUMN), (c, COLUMN), (width, WIDTHS), (len(table), range(1, 4097)))
        numbers = self.read(s, c).numbers
        fit(all(x < len(table) for x in numbers))
        return self.make(s, d, width, [table[x] for x in numbers])

    def pointed(self, s, p):
        column = self.read(s, p)
        fit(column.width == 16 and all(row < s.n for row in column.numbers))
        return column.numbers

    def gather(self, s, d, c, p):
        within((d, COLUMN), (c, COLUMN), (p, COLUMN))
        column = self.read(s, c)
        return self.make(s, d, column.width, [column.numbers[row] for row in self.pointed(s, p)])

    def scatter(self, s, d, c, p):
        within((d, COLUMN), (c, COLUMN), (p, COLUMN))
        column = self.read(s, c)
        rows = self.pointed(s, p)
        kept = self.kept(s, d, column)
        for i in range(s.n):
            kept[rows[i]] = column.numbers[i]
        return self.make(s, d, column.width, kept.values())

    def sort(self, s, p, a, keys):
        within((p, COLUMN), (a, SET), (len(keys), range(1, 17)), *((key, range(64)) for key in keys))
        rows = sorted(s.sets[a])
        for key in keys:
            self.read(s, key & 15)
        for key in reversed(keys):
            column = s.columns[key & 15]
            rows.sort(key=lambda i: sign(column.numbers[i], column.width) if key & 32 else column.numbers[i],
                      reverse=bool(key & 16))
        return self.make(s, p, 16, rows + [i for i in range(s.n) if i not in s.sets[a]])

    def code(self, s, d, c):
        within((d, COLUMN), (c, COLUMN))
        numbers = self.read(s, c).numbers
        out = []
        for x in sorted(numbers):
            if x not in out[-1:]:
                out.append(x)
        fit(len(out) <= 256)
        return self.make(s, d, 8, [out.index(x) for x in numbers], len(out)) + out

    def group(self, s, k, c, m):
        within((k, COLUMN), (c, COLUMN), (m, range(1, 4097)))
        keys, column = self.read(s, k), self.read(s, c)
        fit(all(key < m for key in keys.numbers))
        sums = [sum(x for key, x in zip(keys.numbers, column.numbers) if key == v) for v in range(m)]
        return [sum(v in keys.numbers for v in range(m))] + [total & 2 ** 64 - 1 for total in sums]

    def join(self, s, c, other, e, room):
        within((c, COLUMN), (e, COLUMN), (room, range(65537)))
        left, right = self.read(s, c), self.read(self.stores[other], e)
        pairs = [(i, j) for i, x in enumerate(left.numbers) for j, y in enumerate(right.numbers) if x == y]
        if len(pairs) > room:
            raise Refused(-4)
        return [len(pairs)] + [row for pair in pairs for row in pair]
