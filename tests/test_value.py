"""Promise 8: value."""

import itertools
import re
import unittest

from tests.calling import LARGEST, SMALL, SMALL_NUMBERS, ask, numbers, read, value, write, written

SHAPE = re.compile(rb"(-?)([0-9]{1,4})-([0-9]{1,2})-([0-9])(\+?)")
WRITINGS = (b"0-0-0", b"0-0-0+", b"-0-0-0+", b"3-4-5+", b"-0-0-1", b"10-10-7", b"-123-11-0+", b"5461-3-7+", b"-5461-3-7+")


def meant(text):
    """The measure of which this is the writing: what it may mean is written, and must be the text again."""
    found = SHAPE.fullmatch(text)
    if found is None:
        return None
    sign, feet, inches, eighths, more = found.groups()
    size = ((int(feet) * 12 + int(inches)) * 8 + int(eighths)) * 2 + len(more)
    measure = -size if sign else size
    return measure if size <= LARGEST and written(measure) == text else None


class ValueCase(unittest.TestCase):
    def as_meant(self, text):
        measure = meant(text)
        self.assertEqual(ask(value(text)), [[-6] if measure is None else [0, measure]], text)
        return measure is not None

    def none_of_these(self, *texts):
        for text in texts:
            with self.subTest(text=text):
                self.assertEqual(ask(value(text)), [[-6]])


class Measures(ValueCase):
    def test_number_by_number(self):
        for text, measure in ((b"0-0-0", 0), (b"0-0-0+", 1), (b"-0-0-0+", -1), (b"0-0-1", 2), (b"-0-0-1", -2),
                              (b"0-0-7+", 15), (b"0-1-0", 16), (b"0-10-0", 160), (b"0-11-7+", 191), (b"-0-11-7+", -191),
                              (b"1-0-0", 192), (b"-1-0-0", -192), (b"3-4-5+", 651), (b"-3-4-5+", -651),
                              (b"10-0-0", 1920), (b"1000-0-0", 192000), (b"5460-11-7+", 1048511),
                              (b"5461-0-0", 1048512), (b"5461-3-7", 1048574), (b"5461-3-7+", 1048575),
                              (b"-5461-3-7+", -1048575)):
            with self.subTest(text=text):
                self.assertEqual(ask(value(text)), [[0, measure]])

    def test_every_writing_comes_back(self):
        some = [*range(-800, 801), *range(-LARGEST, LARGEST, 4001), *range(LARGEST - 250, LARGEST + 1)]
        for begin in range(0, len(some), 300):
            measures = some[begin:begin + 300]
            writings = [told[1:] for told in ask(*[write(z) for z in measures])]
            self.assertEqual(ask(*[value(writing) for writing in writings]), [[0, z] for z in measures])

    def test_with_a_table(self):
        for text in (b"-3-4-5+", b"0-0-0", b"", b"0-0-8", b"x"):
            with self.subTest(text=text):
                told = ask(read(SMALL), value(text), numbers())
                self.assertEqual(told[1:], [ask(value(text))[0], SMALL_NUMBERS])

    def test_it_brings_no_table(self):
        self.assertEqual(ask(value(b"0-0-0"), value(SMALL), numbers()), [[0, 0], [-6], [-5]])


class Nones(ValueCase):
    def test_the_empty_text(self):
        self.none_of_these(b"")

    def test_texts_that_end_too_soon(self):
        for writing in (b"3-4-5", b"-3-4-5", b"-123-11-5"):
            for end in range(len(writing)):
                self.none_of_these(writing[:end])

    def test_faults_of_shape(self):
        self.none_of_these(b"+", b"-", b"--", b"---", b"x-0-0", b"0-x-0", b"0-0-x", b"--0-0-1", b"+0-0-1", b"-+0-0-1",
                           b"1--0-0", b"1-0--0", b"-0-1", b"0--1", b"0 0 1", b"0:0-1", b"0-0:1", b"1-+0-0", b"1-0-+")

    def test_needless_noughts(self):
        self.none_of_these(b"00-0-0", b"01-0-0", b"-01-0-0", b"0001-0-0", b"0-00-0", b"0-01-0", b"0-011-0", b"1-00-0",
                           b"0-0-00", b"0-0-01")

    def test_too_many_digits_or_signs(self):
        self.none_of_these(b"0-100-0", b"0-111-0", b"0-0-10", b"0-0-77", b"0-0-0++", b"0-0-0+0", b"0-0-0+1", b"0-0-0+-")

    def test_measures_that_are_none(self):
        self.none_of_these(b"-0-0-0", b"0-12-0", b"0-19-0", b"0-99-7+", b"-0-12-0", b"0-0-8", b"0-0-9", b"0-0-9+",
                           b"-0-0-8", b"5461-4-0", b"-5461-4-0", b"5461-3-8", b"5461-12-0", b"5462-0-0", b"-5462-0-0",
                           b"9999-11-7+", b"10000-0-0", b"54610-0-0", b"2147483648-0-0", b"18446744073709551616-0-0")

    def test_a_byte_ahead_or_behind(self):
        for writing in WRITINGS:
            for byte in (b"\0", b"\t", b"\n", b"\r", b" ", b"/", b":", b"x", b"\x7f", b"\xb2", b"\xff"):
                self.none_of_these(byte + writing, writing + byte, byte + writing + byte)

    def test_a_writing_behind_another(self):
        for writing in WRITINGS:
            self.none_of_these(writing + writing, writing + b" " + writing, writing + b"\n", writing + b"\n\n")

    def test_long_texts(self):
        self.none_of_these(b"1" * 24996 + b"-0-0", b"1" * 24995 + b"-0-0+", b"9" * 25000, b"0" * 24996 + b"-0-0",
                           b"-" + b"7" * 5000 + b"-0-0", b"-" * 25000, b"0-0-0" + b" " * 24995, b"0-0-0" + b"+" * 24995,
                           b"0-" + b"1" * 20000 + b"-0", b"0-0-" + b"1" * 20000)

    def test_the_texts_length_alone_is_no_refusal_of_its_own(self):
        for length in (19999, 20000, 20001, 25000):
            self.none_of_these(b"0" * length)


class AsMeant(ValueCase):
    def test_all_short_texts(self):
        texts = [bytes(signs) for length in range(7) for signs in itertools.product(b"0128-+", repeat=length)]
        found = [self.as_meant(text) for text in texts]
        self.assertIn(True, found)

    def test_all_inches_and_eighths(self):
        for feet in (b"0", b"7", b"5461", b"5462"):
            for inches in range(101):
                for eighths in range(11):
                    for more in (b"", b"+"):
                        self.as_meant(b"%s-%d-%d%s" % (feet, inches, eighths, more))
                        self.as_meant(b"-%s-%d-%d%s" % (feet, inches, eighths, more))

    def test_one_byte_changed_left_out_or_put_in(self):
        for writing in WRITINGS:
            for k in range(len(writing) + 1):
                self.as_meant(writing[:k] + writing[k + 1:])
                for byte in range(256):
                    self.as_meant(writing[:k] + bytes([byte]) + writing[k:])
                    self.as_meant(writing[:k] + bytes([byte]) + writing[k + 1:])


if __name__ == "__main__":
    unittest.main()
