"""Promise 7: write."""

import unittest

from tests.calling import (HIGHEST_HANDED, LARGEST, LOWEST_HANDED, SMALL, SMALL_NUMBERS, ask, numbers, read, write,
                           written)

WRITINGS = {
    0: b"0-0-0", 1: b"0-0-0+", 2: b"0-0-1", 3: b"0-0-1+", 14: b"0-0-7", 15: b"0-0-7+",
    16: b"0-1-0", 17: b"0-1-0+", 31: b"0-1-7+", 32: b"0-2-0", 159: b"0-9-7+", 160: b"0-10-0", 175: b"0-10-7+",
    176: b"0-11-0", 191: b"0-11-7+", 192: b"1-0-0", 193: b"1-0-0+", 383: b"1-11-7+", 384: b"2-0-0", 651: b"3-4-5+",
    1919: b"9-11-7+", 1920: b"10-0-0", 19199: b"99-11-7+", 19200: b"100-0-0", 192000: b"1000-0-0",
    1048511: b"5460-11-7+", 1048512: b"5461-0-0", 1048574: b"5461-3-7", 1048575: b"5461-3-7+",
}


class Write(unittest.TestCase):
    def test_letter_by_letter(self):
        for size, writing in WRITINGS.items():
            with self.subTest(size=size):
                self.assertEqual(ask(write(size)), [[0] + list(writing)])
                if size > 0:
                    self.assertEqual(ask(write(-size)), [[0] + list(b"-" + writing)])

    def test_many_measures(self):
        some = [*range(-800, 801), *range(-LARGEST, LARGEST, 6007), *range(LARGEST - 250, LARGEST + 1)]
        for begin in range(0, len(some), 300):
            measures = some[begin:begin + 300]
            self.assertEqual(ask(*[write(z) for z in measures]), [[0] + list(written(z)) for z in measures])

    def test_no_measure(self):
        for z in (LARGEST + 1, -LARGEST - 1, LARGEST + 2, -LARGEST - 2, HIGHEST_HANDED, LOWEST_HANDED):
            with self.subTest(z=z):
                self.assertEqual(ask(write(z)), [[-1]])
                self.assertEqual(ask(read(SMALL), write(z), numbers())[1:], [[-1], SMALL_NUMBERS])

    def test_with_a_table(self):
        for z in (0, -1, 651, LARGEST, -LARGEST):
            with self.subTest(z=z):
                told = ask(read(SMALL), write(z), numbers())
                self.assertEqual(told[1:], [[0] + list(written(z)), SMALL_NUMBERS])

    def test_it_brings_no_table(self):
        self.assertEqual(ask(write(5), numbers())[1], [-5])


if __name__ == "__main__":
    unittest.main()
