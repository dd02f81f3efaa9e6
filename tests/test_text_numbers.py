"""Promises 3 and 4: text and numbers."""

import unittest

from tests.calling import LARGEST, SMALL, SMALL_NUMBERS, ask, make, numbers, plain_lists, read, text, written_table


class NoTable(unittest.TestCase):
    def test_refused(self):
        self.assertEqual(ask(text()), [[-5]])
        self.assertEqual(ask(numbers()), [[-5]])
        self.assertEqual(ask(text(), numbers(), read(SMALL), text())[:2], [[-5], [-5]])


class Text(unittest.TestCase):
    def test_letter_by_letter(self):
        told = ask(make([0, 651], [-2, 0], [1, 191, 192, LARGEST]), text())
        self.assertEqual(bytes(told[1][1:]),
                         b"stations 0-0-0 3-4-5+\n"
                         b"level -0-0-1: 0-0-0+ 0-11-7+\n"
                         b"level 0-0-0: 1-0-0 5461-3-7+\n")
        self.assertEqual(told[1][0], 0)

    def test_behind_read_byte_by_byte(self):
        for stations, levels in ((2, 2), (2, 16), (24, 2), (24, 16), (5, 9)):
            given = list(written_table(*plain_lists(stations, levels)))
            self.assertEqual(ask(read(given), text()), [[0, 0, 0], [0] + given])

    def test_behind_make(self):
        for stations, levels in ((2, 2), (2, 16), (24, 2), (24, 16), (5, 9)):
            lists = plain_lists(stations, levels)
            self.assertEqual(ask(make(*lists), text()), [[0, 0, 0], [0] + list(written_table(*lists))])

    def test_many_measures(self):
        sizes = (list(range(0, 500)) + list(range(LARGEST - 300, LARGEST + 1)) + list(range(997, LARGEST, 3331)))
        sizes += [0] * (-len(sizes) % 384)
        places, heights = list(range(24)), list(range(16))
        for begin in range(0, len(sizes), 384):
            lists = (places, heights, sizes[begin:begin + 384])
            told = ask(make(*lists), text(), numbers())
            given = written_table(*lists)
            self.assertEqual(told[1], [0] + list(given))
            self.assertEqual(ask(read(given), numbers()), [[0, 0, 0], told[2]])

    def test_heights_below_0(self):
        for low in (-1, -2, -15, -16, -191, -192, -193, -651, -LARGEST):
            lists = ([0, 1], [low, low + 1], [0, 0, 0, 0])
            told = ask(make(*lists), text(), numbers())
            given = written_table(*lists)
            self.assertEqual(told[1], [0] + list(given))
            self.assertEqual(ask(read(given), numbers())[1], told[2])

    def test_the_longest_text(self):
        last = 5460 * 192 + 191
        lists = (list(range(last - 46, last + 1, 2)), list(range(-last, -last + 32, 2)), [last] * 384)
        given = written_table(*lists)
        self.assertEqual(ask(make(*lists), text(), read(given), text())[1:], [[0] + list(given), [0, 0, 0], [0] + list(given)])


class Numbers(unittest.TestCase):
    def test_behind_read(self):
        self.assertEqual(ask(read(SMALL), numbers())[1], SMALL_NUMBERS)

    def test_behind_make(self):
        told = ask(make([1, 2, 3], [-7, 9], [10, 20, 30, 40, 50, 60]), numbers())
        self.assertEqual(told[1], [0, 3, 2, 1, 2, 3, -7, 9, 10, 20, 30, 40, 50, 60])

    def test_level_by_level(self):
        told = ask(make([1, 2, 3], [-7, 9], [10, 20, 30, 40, 50, 60]), text())
        self.assertEqual(bytes(told[1][1:]).splitlines()[1:],
                         [b"level -0-0-3+: 0-0-5 0-1-2 0-1-7",
                          b"level 0-0-4+: 0-2-4 0-3-1 0-3-6"])

    def test_asking_changes_nothing(self):
        told = ask(read(SMALL), text(), numbers(), text(), numbers())
        self.assertEqual(told[1:3], told[3:5])


if __name__ == "__main__":
    unittest.main()
