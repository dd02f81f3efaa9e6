"""Promise 1 once more: read against the document's words, said another way.

The shape is a grammar, and a fault of shape stands where no text of that shape goes on. All the other faults are
gathered with the byte at which each is told, and the first of them all is what read must answer.
"""

import functools
import re
import unittest

from tests.calling import SMALL, ask, plain_lists, read, written_table

NEVER, EMPTY = ("never",), ("empty",)
DIGITS = frozenset(b"0123456789")


def one_of(signs):
    return ("one", frozenset(signs))


@functools.lru_cache(maxsize=None)
def both(first, then):
    if NEVER in (first, then):
        return NEVER
    if first == EMPTY:
        return then
    if then == EMPTY:
        return first
    return ("both", first, then)


@functools.lru_cache(maxsize=None)
def either(choices):
    left = frozenset(choice for choice in choices if choice != NEVER)
    if len(left) > 1:
        return ("either", left)
    return next(iter(left), NEVER)


def chain(*parts):
    joined = EMPTY
    for part in reversed(parts):
        joined = both(part, joined)
    return joined


def word(signs):
    return chain(*[one_of([sign]) for sign in signs])


def many(part):
    return ("many", part)


def maybe(part):
    return either(frozenset([part, EMPTY]))


ZERO, DIGIT, NOT_ZERO = one_of(b"0"), one_of(DIGITS), one_of(DIGITS - set(b"0"))
FEET = either(frozenset([ZERO, chain(NOT_ZERO, many(DIGIT))]))
INCHES = either(frozenset([ZERO, chain(NOT_ZERO, maybe(DIGIT))]))
MEASURE = chain(maybe(word(b"-")), FEET, word(b"-"), INCHES, word(b"-"), DIGIT, maybe(word(b"+")))
ROW = chain(many(chain(word(b" "), MEASURE)), word(b"\n"))
SHAPE = chain(word(b"stations"), ROW, many(chain(word(b"level "), MEASURE, word(b":"), ROW)))


@functools.lru_cache(maxsize=None)
def may_end(shape):
    name = shape[0]
    if name == "both":
        return may_end(shape[1]) and may_end(shape[2])
    if name == "either":
        return any(may_end(choice) for choice in shape[1])
    return name in ("empty", "many")


@functools.lru_cache(maxsize=None)
def behind(shape, byte):
    """The shape of what may follow when byte has been read."""
    name = shape[0]
    if name == "one":
        return EMPTY if byte in shape[1] else NEVER
    if name == "many":
        return both(behind(shape[1], byte), shape)
    if name == "either":
        return either(frozenset(behind(choice, byte) for choice in shape[1]))
    if name == "both":
        rest = both(behind(shape[1], byte), shape[2])
        if may_end(shape[1]):
            return either(frozenset([rest, behind(shape[2], byte)]))
        return rest
    return NEVER


def shape_fault(text):
    """Where the shape is broken first; None if it isn't."""
    shape = SHAPE
    for place, byte in enumerate(text):
        shape = behind(shape, byte)
        if shape == NEVER:
            return place
    return None if may_end(shape) else len(text)


WHOLE = re.compile(rb"(-?)([0-9]+)-([0-9]+)-([0-9])(\+?)")


def worth(found):
    """The measure, or None if it's none."""
    sign, feet, inches, eighths, more = found.groups()
    feet, inches, eighths = int(feet[:6]), int(inches), int(eighths)
    size = ((feet * 12 + inches) * 8 + eighths) * 2 + len(more)
    if inches > 11 or eighths > 7 or size > 1048575 or (sign and size == 0):
        return None
    return -size if sign else size


# Which of two faults told at one byte is told first.
RANK = {2: 0, 3: 1, 4: 2, 1: 3}


def line_faults(text, begin, end, number):
    """(told at, 2, place) of the line's measures that are none; each whole measure and the byte it's told at."""
    faults, measures = [], []
    for run in re.finditer(rb"[-+0-9]+", text[begin:end]):
        first, last = begin + run.start(), begin + run.end()
        found = WHOLE.fullmatch(run.group())
        if found is None or last == len(text) or text[last] in b"+0123456789":
            continue
        height = number > 0 and not measures
        measure = worth(found)
        if measure is None or (measure < 0 and not height):
            faults.append((last, 2, first))
        measures.append((measure, last))
    return faults, measures


def rising_faults(text, rising):
    faults = []
    for (before, told_at), (measure, last) in zip(rising, rising[1:]):
        if None not in (before, measure) and measure <= before:
            faults.append((last, 3, text.rfind(b" ", 0, last) + 1))
    return faults


def count_faults(text, lines, broken):
    """lines: for each its begin, its end, its measures."""
    faults = []
    stations = len(lines[0][2])
    for number, (begin, end, measures) in enumerate(lines):
        ended = end < broken and text[end:end + 1] == b"\n"
        row = measures[1:] if number else measures
        fewest, most = (stations, stations) if number else (2, 24)
        if number == 17 and begin < len(text):
            faults.append((begin, 4, begin))
        if ended and len(row) < fewest:
            faults.append((end, 4, end))
        opened = [begin + found.start() for found in re.finditer(rb" ", text[begin:end])][1 if number else 0:]
        if len(opened) > most:
            faults.append((opened[most], 4, opened[most]))
    if broken > len(text) and len(lines) - 2 < 2:
        faults.append((len(text), 4, len(text)))
    return faults


def first_fault(text):
    broken = shape_fault(text)
    faults = [] if broken is None else [(broken, 1, broken)]
    broken = len(text) + 1 if broken is None else broken
    lines, begin = [], 0
    for number, line in enumerate(text[:broken].split(b"\n")):
        end = begin + len(line)
        told, measures = line_faults(text, begin, end, number)
        faults += told
        lines.append((begin, end, measures))
        begin = end + 1
    faults += rising_faults(text, lines[0][2])
    faults += rising_faults(text, [measures[0] for begin, end, measures in lines[1:] if measures])
    faults += count_faults(text, lines, broken)
    if not faults:
        return [0, 0]
    told_at, kind, place = min(faults, key=lambda fault: (fault[0], RANK[fault[1]]))
    return [kind, place]


ODD_BYTES = b"0159-+ :\nlsx/;\0\xff"
ODD_MEASURES = (b"", b"-", b"0-0-0", b"-0-0-0", b"-0-0-0+", b"0-0-0+", b"5461-3-7+", b"5461-4-0", b"5462-0-0", b"-5461-3-7+",
                b"-5461-4-0", b"00-0-0", b"0-00-0", b"0-01-0", b"0-10-0", b"0-11-7+", b"0-12-0", b"0-123-0", b"0-0-8",
                b"0-0-9+", b"0-0-00", b"0-0-0++", b"0-0-0+0", b"0-0-0-", b"0-0", b"0", b"12345678901-0-0", b"+1-0-0",
                b"1 -0-0", b"0-0-0x", b"9-9-9:", b"-1-0-0\n", b"-1-12-0x", b"0-0-0 0-0-0", b"9999-0-0 9999-0-0")


class FirstFault(unittest.TestCase):
    def setUp(self):
        self.kinds = {}

    def same(self, given):
        expected = first_fault(given)
        self.assertEqual(ask(read(given)), [[0] + expected], given)
        self.kinds[expected[0]] = self.kinds.get(expected[0], 0) + 1

    def test_one_byte_changed_left_out_or_put_in(self):
        for base in (SMALL, written_table(*plain_lists(3, 3))):
            for k in range(len(base) + 1):
                self.same(base[:k])
                self.same(base[:k] + base[k + 1:])
                for odd in ODD_BYTES:
                    self.same(base[:k] + bytes([odd]) + base[k:])
                    self.same(base[:k] + bytes([odd]) + base[k + 1:])
        self.assertEqual(sorted(self.kinds), [0, 1, 2, 3, 4])

    def test_one_or_two_measures_changed(self):
        pieces = re.split(rb"([-+0-9]+)", SMALL)
        places = range(1, len(pieces), 2)
        for k in places:
            for odd in ODD_MEASURES:
                once = pieces[:k] + [odd] + pieces[k + 1:]
                self.same(b"".join(once))
                for m in places:
                    if m > k:
                        for other in (b"-0-0-0", b"5461-3-7+", b"x", b"0-0-0\n"):
                            self.same(b"".join(once[:m] + [other] + once[m + 1:]))
        self.assertEqual(sorted(self.kinds), [0, 1, 2, 3, 4])

    def test_lines_put_together_otherwise(self):
        lines = SMALL.splitlines(keepends=True) + [b"\n", b"stations\n", b"level\n", b"level 0-0-0:\n",
                                                   b"level 1-0-0: 0-0-0 0-0-0 0-0-0\n", b"level -0-6-0: 0-0-0\n"]
        for first in lines:
            for second in lines:
                for third in lines:
                    for fourth in [b""] + lines:
                        self.same(first + second + third + fourth)

    def test_around_the_most_stations_and_levels(self):
        for stations, levels in ((2, 15), (2, 16), (2, 17), (23, 2), (24, 2), (25, 2), (26, 2), (24, 16), (25, 17)):
            base = written_table(*plain_lists(stations, levels))
            self.same(base)
            for tail in (b"x", b"\n", b" ", b"level", b"level 9-0-0: 0-0-0 0-0-0\n", b"\xff"):
                self.same(base + tail)
                self.same(base[:-1] + tail)
            first_line = base.index(b"\n")
            for put in (b" ", b"x", b"+", b" 0-0-0", b" -0-0-0", b"\n", b" 5461-3-7+", b" 9999-0-0"):
                self.same(base[:first_line] + put + base[first_line:])
        self.assertEqual(sorted(self.kinds), [0, 1, 2, 3, 4])


if __name__ == "__main__":
    unittest.main()
