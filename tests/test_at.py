"""Promise 5: at."""

import unittest

from tests.calling import (HIGHEST_HANDED, LOWEST_HANDED, SMALL, SMALL_NUMBERS, ask, at, make, numbers, plain_lists, read,
                           set_to, text, value, write, written_table)

SIZES = ((2, 2), (2, 16), (24, 2), (24, 16), (5, 3))


def cells(stations, levels):
    return [(j, i) for j in range(levels) for i in range(stations)]


def none_of(count):
    """Numbers that are no station or no level where there are so many."""
    return [LOWEST_HANDED, -count - 1, -count, -2, -1, count, count + 1, 2 * count, HIGHEST_HANDED]


class NoTable(unittest.TestCase):
    def test_refused(self):
        for j, i in ((0, 0), (1, 1), (-1, 0), (0, -1), (HIGHEST_HANDED, LOWEST_HANDED)):
            with self.subTest(j=j, i=i):
                self.assertEqual(ask(at(j, i)), [[-5]])

    def test_refused_behind_calls_that_bring_no_table(self):
        for call in (read(b""), read(b"x" * 20001), make([], [], []), write(0), value(b"0-0-0"), set_to(0, 0, 0), at(0, 0)):
            with self.subTest(call=call[:9]):
                self.assertEqual(ask(call, at(0, 0), at(-1, 9))[1:], [[-5], [-5]])


class There(unittest.TestCase):
    def test_number_by_number(self):
        told = ask(read(SMALL), at(0, 0), at(0, 1), at(1, 0), at(1, 1))
        self.assertEqual(told[1:], [[0, 0, -96, 231], [0, 192, -96, 448], [0, 0, 0, 0], [0, 192, 0, 651]])

    def each_cell(self, first, lists, where):
        places, heights, breadths = lists
        told = ask(first, *[at(j, i) for j, i in where])
        self.assertEqual(told[0], [0, 0, 0])
        self.assertEqual(told[1:], [[0, places[i], heights[j], breadths[j * len(places) + i]] for j, i in where])

    def test_each_corner(self):
        for stations, levels in SIZES:
            with self.subTest(stations=stations, levels=levels):
                lists = plain_lists(stations, levels)
                corners = [(j, i) for j in (0, levels - 1) for i in (0, stations - 1)]
                self.each_cell(make(*lists), lists, corners)
                self.each_cell(read(written_table(*lists)), lists, corners)

    def test_each_half_breadth(self):
        for stations, levels in ((2, 2), (24, 2), (2, 16), (7, 9)):
            with self.subTest(stations=stations, levels=levels):
                lists = plain_lists(stations, levels)
                self.each_cell(make(*lists), lists, cells(stations, levels))
                self.each_cell(read(written_table(*lists)), lists, cells(stations, levels))

    def test_behind_set(self):
        told = ask(read(SMALL), set_to(1, 0, 77), at(1, 0), at(0, 1), at(1, 1))
        self.assertEqual(told[1:], [[0], [0, 0, 0, 77], [0, 192, -96, 448], [0, 192, 0, 651]])

    def test_of_the_last_table(self):
        told = ask(make(*plain_lists(5, 3)), at(2, 4), read(SMALL), at(1, 1), at(2, 4))
        self.assertEqual(told[3:], [[0, 192, 0, 651], [-4]])

    def test_asking_changes_nothing(self):
        told = ask(read(SMALL), at(0, 0), at(-1, 0), at(0, 2), at(1, 1), text(), numbers())
        self.assertEqual(told[-2:], [[0] + list(SMALL), SMALL_NUMBERS])


class NotThere(unittest.TestCase):
    def test_no_such_level(self):
        for stations, levels in SIZES:
            for j in none_of(levels):
                for i in (0, stations - 1):
                    with self.subTest(stations=stations, levels=levels, j=j, i=i):
                        self.assertEqual(ask(make(*plain_lists(stations, levels)), at(j, i))[1], [-4])

    def test_no_such_station(self):
        for stations, levels in SIZES:
            for i in none_of(stations):
                for j in (0, levels - 1):
                    with self.subTest(stations=stations, levels=levels, j=j, i=i):
                        self.assertEqual(ask(make(*plain_lists(stations, levels)), at(j, i))[1], [-4])

    def test_neither(self):
        for j in none_of(3):
            for i in none_of(5):
                with self.subTest(j=j, i=i):
                    self.assertEqual(ask(read(written_table(*plain_lists(5, 3))), at(j, i))[1], [-4])

    def test_the_level_goes_first(self):
        told = ask(make(*plain_lists(5, 3)), at(2, 4), at(4, 2), at(3, 0), at(0, 3))
        self.assertEqual([len(answer) for answer in told[1:]], [4, 1, 1, 4])


if __name__ == "__main__":
    unittest.main()
