"""How the tests write calls, and read answers and whole stores."""

import unittest

from sidecolumns.store import answers

NUMBERS = {
    "open": 0, "load": 1, "save": 2, "tell": 3,
    "where": 4, "match": 5, "bits": 6, "among": 7, "logic": 8, "count": 9, "find": 10,
    "mix": 11, "one": 12, "shift": 13, "funnel": 14, "width": 15, "neighbours": 16,
    "blend": 17, "slide": 18,
    "sum": 19, "least": 20, "apart": 21, "nearest": 22, "dot": 23,
    "pick": 24, "place": 25, "lookup": 26, "gather": 27, "scatter": 28, "sort": 29, "code": 30,
    "group": 31, "join": 32,
}
WIDTHS = (8, 16, 32, 64)
FAR_OUT = (-2147483648, -1, 2147483647)


def call(name, *given):
    """One call, as the list has it; a list among what is given gets its length ahead of it."""
    written = [NUMBERS[name]]
    for part in given:
        if isinstance(part, list):
            written.append(len(part))
            written.extend(part)
        else:
            written.append(part)
    return written


def pack(numbers, bits):
    whole = 0
    for i, number in enumerate(numbers):
        whole |= number << (i * bits)
    return list(whole.to_bytes((len(numbers) * bits + 7) // 8, "little"))


def unpack(given, bits, rows):
    whole = int.from_bytes(bytes(given), "little")
    return [(whole >> (i * bits)) & ((1 << bits) - 1) for i in range(rows)]


def column(o, c, width, numbers):
    return call("load", o, c, width, width, pack(numbers, width))


def chosen(o, x, rows, n):
    """Two calls that give set x just these rows; column 15 is used for it."""
    return (call("load", o, 15, 8, 1, pack([int(i in rows) for i in range(n)], 1)),
            call("where", o, x, 15, 0, 1))


def run(*calls):
    """The answers, one list a call, without their lengths."""
    handed = [number for written in calls for number in written]
    assert len(handed) <= 16000 and len(calls) <= 300, "more than a list may hold"
    told = answers(handed)
    parted = []
    at = 0
    while at < len(told):
        parted.append(told[at + 1:at + 1 + told[at]])
        at += 1 + told[at]
    assert at == len(told) and len(parted) == len(calls), told
    return parted


def last(*calls):
    return run(*calls)[-1]


def numbers_of(o, c, rows, *calls):
    """The numbers that column c has when the calls are through."""
    saved = last(*calls, call("save", o, c, 64))
    assert saved[0] == len(saved) - 1 == rows * 8, saved
    return unpack(saved[1:], 64, rows)


def rows_of(o, x, rows, *calls):
    """The rows that set x has when the calls are through: asked for one by one, through set y and column 15."""
    y = 0 if x else 1
    asked = [column(o, 15, 16, list(range(rows)))]
    for i in range(rows):
        asked.append(call("where", o, y, 15, 0, i))
        asked.append(call("logic", o, y, x, y, y, 0b10000000))
    told = run(*calls, *asked)[len(calls) + 1:]
    return [i for i in range(rows) if told[2 * i + 1] == [1]]


def whole_store(o, rows, *calls):
    """All that can be seen of a store when the calls are through."""
    asked = []
    for c in range(16):
        asked.append(call("tell", o, c))
        asked.append(call("save", o, c, 64))
    columns = run(*calls, *asked)[len(calls):]
    return columns, [rows_of(o, x, rows, *calls) for x in range(8)]


class Checks(unittest.TestCase):
    """What is seen of the whole store 0 behind one more call, in stores of some rows."""

    def check_asked(self, n, opened, asked, answer):
        """The call answers so and changes nothing."""
        self.assertEqual(last(*opened, asked), answer, asked)
        self.assertEqual(whole_store(0, n, *opened, asked), whole_store(0, n, *opened), asked)

    def check_made(self, n, opened, asked, answer, made):
        """The call answers so and makes the column: made has its number, its width, its numbers."""
        d, width, numbers = made
        self.assertEqual(last(*opened, asked), answer, asked)
        self.assertEqual(numbers_of(0, d, n, *opened, asked), numbers, asked)
        columns, sets = whole_store(0, n, *opened)
        columns[2 * d:2 * d + 2] = [[width], [8 * n] + pack(numbers, 64)]
        self.assertEqual(whole_store(0, n, *opened, asked), (columns, sets), asked)
