"""Lines of many calls, one behind another, on both stores: held against the document told a second time."""

import random
import unittest

from sidecolumns.store import answers
from tests.line import FAR_OUT, NUMBERS, WIDTHS, call, column, pack, run
from tests.model import Model

ROWS = (0, 1, 2, 3, 4, 5, 7, 8, 9, 16, 17, 31, 32, 33, 63, 64, 65, 90, 130)
# By call: what its numbers are, one by one, behind the store.
KINDS = {
    "open": ("n",), "load": ("d", "width", "load"), "save": ("c", "bits"), "tell": ("any",),
    "where": ("x", "c", 10, "value"), "match": ("x", "c", "e", 10), "bits": ("x", "c", 3, "value"),
    "among": ("x", "c", "bounds"), "logic": ("x", "a", "a", "a", 256), "count": ("a",), "find": ("c8", "bytes"),
    "mix": ("d", "c", "e", 23), "one": ("d", "c", 6), "shift": ("d", "c", "e", 5),
    "funnel": ("d", "c", "e", "e", 2), "width": ("d", "c", "width", 4), "neighbours": ("d", "c", "e", 4),
    "blend": ("d", "c", "e", "a"), "slide": ("d", "c", "e", "k"), "sum": ("c", "a", 2), "least": ("c", "a", 4),
    "apart": ("c8", "e"), "nearest": ("c8", "four"), "dot": ("c", "e", 6), "pick": ("d", "c", "a"),
    "place": ("e", "c", "a"), "lookup": ("d", "low", "width", "table"), "gather": ("d", "c", "p"),
    "scatter": ("e", "c", "p"), "sort": ("d", "a", "keys"), "code": ("d", "c"), "group": ("low", "c", "m"),
    "join": ("c", "other", "theirs", "room"),
}


class Writer:
    """Writes lines of calls, and minds through the model what suits the stores as they are; a few calls don't."""

    def __init__(self, seed):
        self.dice = random.Random(seed)
        self.model = Model()
        self.calls = []
        self.told = []
        self.names = []

    def say(self, name, o, *given):
        self.calls.append(call(name, o, *given))
        self.told.append(self.model.answer(name, o, *given))
        self.names.append(name)

    def number(self, width):
        top = (1 << width) - 1
        return self.dice.choice((self.dice.randrange(4), self.dice.randrange(top + 1), top, top // 2, top // 2 + 1,
                                 self.dice.randrange(100), self.dice.getrandbits(self.dice.randrange(width + 1))))

    def numbers(self, width, n):
        if self.dice.random() < 0.4:
            few = [self.number(width) for i in range(4)]
            return [self.dice.choice(few) for i in range(n)]
        if self.dice.random() < 0.3:
            return [self.dice.randrange(max(1, min(n, 1 << width))) for i in range(n)]
        return [self.number(width) for i in range(n)]

    def begin(self, o):
        n = self.dice.choice(ROWS)
        self.say("open", o, n)
        for c in range(8):
            width = WIDTHS[c % 4]
            self.say("load", o, c, width, width, pack(self.numbers(width, n), width))
        for x in range(8):
            self.say("bits", o, x, self.dice.randrange(4), 0, self.dice.randrange(256))

    def of_width(self, s, width):
        several = [c for c in s.columns if s.columns[c].width == width]
        return self.dice.choice(several or range(16))

    def whose_numbers_are_below(self, s, limit, widths):
        several = [c for c, it in s.columns.items() if it.width in widths and all(x < limit for x in it.numbers)]
        return self.dice.choice(several or range(16))

    def end_of_list(self, kind, o, given):
        """The last of a call's numbers, if it is a list or hangs on what stands before it."""
        s = self.model.stores[o]
        below = max(s.columns[given[0]].numbers, default=0) + 1 if given and given[0] in s.columns else 3
        if kind == "load":
            bits = self.dice.randrange(1, given[1] + 1) if given[1] in WIDTHS else 8
            return [bits, pack([self.dice.getrandbits(bits) for i in range(s.n)], bits)]
        if kind == "bounds":
            m = self.dice.choice((0, 1, 2, 3, 16, 17))
            return [m, [self.number(self.dice.choice(WIDTHS)) for i in range(2 * m)] if 0 < m < 17 else []]
        if kind == "bytes":
            numbers = s.columns[given[0]].numbers if given[0] in s.columns else []
            at = self.dice.randrange(len(numbers) + 1)
            return [[x % 256 for x in numbers[at:at + self.dice.randrange(1, 17)]]]
        if kind == "four":
            return [[self.dice.randrange(256) for i in range(4)]]
        if kind == "table":
            below = max(s.columns[given[1]].numbers, default=0) + 1 if given[1] in s.columns else 3
            m = self.dice.choice((below, below, below, below + 3, below - 1, 0))
            width = given[2] if given[2] in WIDTHS else 64
            return [[self.number(width) for i in range(min(m, 300))]]
        if kind == "keys":
            m = self.dice.choice((0, 1, 1, 2, 2, 3, 4, 16))
            usual = [c + 16 * k for c in s.columns for k in range(4)] or [0]
            return [[self.dice.choice(usual) if self.dice.random() < 0.98 else self.dice.choice((-1, 63, 64, 9))
                     for i in range(m)]]
        if kind == "m":
            return [self.dice.choice((below, below, below + 2, below - 1, 0)) if below < 300 else 5]
        raise KeyError(kind)

    def plain(self, kind, o, given):
        s = self.model.stores[o]
        usual = list(s.columns) or [0]
        if isinstance(kind, int):
            return self.dice.randrange(kind)
        if kind == "e":
            known = [c for c in given if c in s.columns]
            return self.of_width(s, s.columns[known[-1]].width) if known else self.dice.choice(usual)
        if kind == "theirs":
            return self.dice.choice(list(self.model.stores[given[-1]].columns) or [0])
        return {
            "n": lambda: self.dice.choice(ROWS + FAR_OUT),
            "d": lambda: self.dice.randrange(16), "any": lambda: self.dice.randrange(16),
            "c": lambda: self.dice.choice(usual), "c8": lambda: self.of_width(s, 8),
            "p": lambda: self.whose_numbers_are_below(s, s.n, (16,)),
            "low": lambda: self.whose_numbers_are_below(s, 200, WIDTHS),
            "x": lambda: self.dice.randrange(8), "a": lambda: self.dice.randrange(8),
            "width": lambda: self.dice.choice(WIDTHS), "value": lambda: self.number(64),
            "bits": lambda: self.dice.choice((64, 64, 33, self.dice.randrange(1, 65))),
            "k": lambda: self.dice.randrange(s.n + 1), "other": lambda: self.dice.randrange(2),
            "room": lambda: self.dice.choice((0, 1, s.n, 65536, 65536)),
        }[kind]()

    def go_on(self):
        o = self.dice.randrange(2)
        name = self.dice.choice([name for name in NUMBERS if name != "open"] + ["sort"])
        if self.dice.random() < 0.01:
            name = "open"
        given = []
        for kind in KINDS[name]:
            if kind in ("load", "bounds", "bytes", "four", "table", "keys", "m"):
                given.extend(self.end_of_list(kind, o, given))
            elif kind not in ("value", "other") and self.dice.random() < 0.02:
                given.append(self.dice.choice(FAR_OUT + (8, 16, 24)))
            else:
                given.append(self.plain(kind, o, given))
        # A place or a scatter into an empty column is not what "e" looks for.
        if name in ("place", "scatter") and self.dice.random() < 0.3:
            given[0] = self.dice.randrange(16)
        elif name in ("place", "scatter") and given[1] in self.model.stores[o].columns:
            given[0] = self.of_width(self.model.stores[o], self.model.stores[o].columns[given[1]].width)
        self.say(name, o, *given)

    def end(self):
        """All that can be seen of both stores: the columns, then the rows of the sets, by the rows' own numbers."""
        for o, s in self.model.stores.items():
            for c in range(16):
                self.say("tell", o, c)
                self.say("save", o, c, 64)
            self.say("load", o, 15, 16, 16, pack(range(s.n), 16))
            for x in range(8):
                self.say("pick", o, 14, 15, x)
                self.say("save", o, 14, 16)

    def write(self):
        self.begin(0)
        self.begin(1)
        while len(self.calls) < 195 and sum(map(len, self.calls)) < 14000:
            self.go_on()
        self.end()


class Lines(unittest.TestCase):
    def test_against_the_document_told_again(self):
        held = dict.fromkeys(NUMBERS, 0)
        refused = dict.fromkeys(NUMBERS, 0)
        for seed in range(150):
            writer = Writer(seed)
            writer.write()
            told = run(*writer.calls)
            for at, (got, expected) in enumerate(zip(told, writer.told)):
                self.assertEqual(got, expected, (seed, at, writer.names[at], writer.calls[at]))
            for name, told in zip(writer.names, writer.told):
                refused[name] += told[0] < -1
                held[name] += told[0] >= -1
        self.assertGreater(min(held.values()), 100, held)
        self.assertGreater(min(refused.values()), 5, refused)

    def test_a_question_over_a_table(self):
        """Of sales with a kind, a price and a number sold: what each kind brought, the dearest first."""
        kinds, prices, sold = [2, 0, 1, 2, 0, 9], [100, 250, 75, 20, 30, 5], [3, 1, 4, 10, 2, 1]
        told = run(
            call("open", 0, 6), call("open", 1, 3),
            column(0, 0, 8, kinds), column(0, 1, 16, prices), column(0, 2, 16, sold),
            call("mix", 0, 3, 1, 2, 2),                     # 300 250 300 200 60 5
            call("where", 0, 0, 0, 2, 9),                   # all but the last row
            call("sum", 0, 3, 0, 0),
            call("sort", 0, 4, 0, [3 + 16, 0]),
            call("save", 0, 4, 16),
            call("gather", 0, 5, 0, 4), call("save", 0, 5, 8),
            call("scatter", 0, 6, 5, 4), call("match", 0, 1, 6, 0, 0),
            call("code", 0, 7, 0), call("group", 0, 7, 3, 4),
            column(1, 0, 32, [2, 7, 9]),
            call("join", 0, 0, 1, 0, 3), call("join", 1, 0, 0, 0, 2),
            call("least", 0, 1, 0, 1), call("pick", 0, 8, 1, 0), call("save", 0, 8, 16),
            call("slide", 0, 8, 8, 1, 5), call("blend", 0, 8, 8, 1, 0), call("lookup", 0, 9, 7, 64, [5, 6, 7, 2 ** 63]),
            call("save", 0, 9, 64), call("save", 0, 8, 8), call("place", 0, 8, 2, 0), call("save", 0, 8, 4),
        )
        self.assertEqual(told, [
            [0], [0], [0], [0], [0], [0],
            [5],
            [5, 1110, 0],
            [0],
            [12, 2, 0, 0, 0, 1, 0, 3, 0, 4, 0, 5, 0],
            [0], [6, 1, 2, 0, 2, 0, 9],
            [0], [6],
            [4, 0, 1, 2, 9], [4, 310, 300, 500, 5],
            [0],
            [3, 0, 0, 3, 0, 5, 2], [-4],
            [1], [5], [12, 100, 0, 250, 0, 75, 0, 20, 0, 30, 0, 0, 0],
            [0], [0], [0],
            [48] + pack([7, 5, 6, 7, 5, 2 ** 63], 64), [6, 100, 250, 75, 20, 30, 30], [5], [-3],
        ])

    def test_the_list_handed_in_stays(self):
        for seed in range(3):
            writer = Writer(seed)
            writer.write()
            calls = [number for written in writer.calls for number in written]
            handed = list(calls)
            first = answers(calls)
            self.assertEqual(calls, handed)
            self.assertEqual(answers(calls), first)

    def test_no_calls(self):
        self.assertEqual(answers([]), [])


if __name__ == "__main__":
    unittest.main()
