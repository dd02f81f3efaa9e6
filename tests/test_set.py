"""Promise 6: set."""

import unittest

from tests.calling import (HIGHEST_HANDED, LARGEST, LOWEST_HANDED, SMALL, SMALL_NUMBERS, ask, at, make, numbers,
                           plain_lists, read, set_to, text, value, write, written_table)

NO_HALF_BREADTHS = (LOWEST_HANDED, -LARGEST - 1, -LARGEST, -2, -1, LARGEST + 1, LARGEST + 2, HIGHEST_HANDED)
HALF_BREADTHS = (0, 1, 2, 191, 192, 651, LARGEST - 1, LARGEST)
# Levels and stations of a table with 5 stations and 3 levels, of which one at least is none.
NOT_THERE = ((-1, 0), (0, -1), (3, 0), (0, 5), (3, 5), (-1, 5), (-3, 0), (0, -5), (4, 2), (2, 5), (1, -1), (1, 5),
             (LOWEST_HANDED, 0), (0, LOWEST_HANDED), (HIGHEST_HANDED, 0), (0, HIGHEST_HANDED),
             (HIGHEST_HANDED, LOWEST_HANDED))


class SetCase(unittest.TestCase):
    def holds(self, told, lists):
        """told: the answers to text and numbers."""
        places, heights, breadths = lists
        self.assertEqual(told, [[0] + list(written_table(*lists)),
                                [0, len(places), len(heights)] + places + heights + breadths])

    def refused(self, refusal, call, lists):
        told = ask(make(*lists), call, text(), numbers())
        self.assertEqual(told[1], [refusal])
        self.holds(told[2:], lists)


class Done(SetCase):
    def test_one_is_changed_and_no_other(self):
        for stations, levels in ((2, 2), (5, 3), (3, 5)):
            for k in range(stations * levels):
                with self.subTest(stations=stations, levels=levels, k=k):
                    places, heights, breadths = lists = plain_lists(stations, levels)
                    j, i = divmod(k, stations)
                    after = breadths[:k] + [4321] + breadths[k + 1:]
                    for first in (make(*lists), read(written_table(*lists))):
                        told = ask(first, set_to(j, i, 4321), at(j, i), text(), numbers())
                        self.assertEqual(told[:3], [[0, 0, 0], [0], [0, places[i], heights[j], 4321]])
                        self.holds(told[3:], (places, heights, after))

    def test_the_corners_of_the_most(self):
        places, heights, breadths = plain_lists(24, 16)
        for j, i, k in ((0, 0, 0), (0, 23, 23), (15, 0, 360), (15, 23, 383)):
            with self.subTest(j=j, i=i):
                after = breadths[:k] + [LARGEST] + breadths[k + 1:]
                told = ask(make(places, heights, breadths), set_to(j, i, LARGEST), text(), numbers())
                self.assertEqual(told[1], [0])
                self.holds(told[2:], (places, heights, after))

    def test_each_half_breadth_of_the_bounds(self):
        for v in HALF_BREADTHS:
            with self.subTest(v=v):
                told = ask(read(SMALL), set_to(0, 1, v), at(0, 1), numbers())
                self.assertEqual(told[1:], [[0], [0, 192, -96, v], SMALL_NUMBERS[:8] + [v] + SMALL_NUMBERS[9:]])

    def test_one_set_behind_another(self):
        lists = plain_lists(5, 3)
        calls = [set_to(j, i, 1000 * j + i) for j in range(3) for i in range(5)]
        told = ask(make(*lists), *calls, text(), numbers())
        self.assertEqual(told[1:16], [[0]] * 15)
        self.holds(told[16:], (lists[0], lists[1], [1000 * j + i for j in range(3) for i in range(5)]))

    def test_the_last_set_holds(self):
        told = ask(read(SMALL), set_to(1, 1, 5), set_to(1, 1, 6), set_to(1, 1, 6), at(1, 1))
        self.assertEqual(told[1:], [[0], [0], [0], [0, 192, 0, 6]])

    def test_the_text_told_is_read_again(self):
        told = ask(read(SMALL), set_to(0, 0, 3), set_to(1, 1, LARGEST), text(), numbers())
        again = ask(read(told[3][1:]), numbers())
        self.assertEqual(again, [[0, 0, 0], told[4]])


class Refused(SetCase):
    def test_no_table(self):
        for j, i, v in ((0, 0, 0), (0, 0, -1), (-1, 0, 0), (0, -1, LARGEST + 1), (9, 99, HIGHEST_HANDED)):
            with self.subTest(j=j, i=i, v=v):
                self.assertEqual(ask(set_to(j, i, v), text(), numbers(), at(0, 0)), [[-5]] * 4)

    def test_no_table_behind_calls_that_bring_none(self):
        for call in (read(b""), read(b"x" * 20001), make([], [], []), write(0), value(b"0-0-0"), at(0, 0)):
            with self.subTest(call=call[:9]):
                self.assertEqual(ask(call, set_to(0, 0, 0), set_to(0, 0, -1))[1:], [[-5], [-5]])

    def test_no_measure_from_0_on(self):
        for v in NO_HALF_BREADTHS:
            for j, i in ((0, 0), (2, 4)):
                with self.subTest(j=j, i=i, v=v):
                    self.refused(-1, set_to(j, i, v), plain_lists(5, 3))

    def test_no_such_level_or_station(self):
        for j, i in NOT_THERE:
            for v in HALF_BREADTHS:
                with self.subTest(j=j, i=i, v=v):
                    self.refused(-4, set_to(j, i, v), plain_lists(5, 3))

    def test_the_measure_goes_before_the_level_and_the_station(self):
        for j, i in NOT_THERE:
            for v in NO_HALF_BREADTHS:
                with self.subTest(j=j, i=i, v=v):
                    self.refused(-1, set_to(j, i, v), plain_lists(5, 3))

    def test_a_refused_set_leaves_what_was_set(self):
        told = ask(read(SMALL), set_to(1, 1, 7), set_to(1, 1, -1), set_to(2, 1, 8), set_to(1, -1, 9), at(1, 1), numbers())
        self.assertEqual(told[1:], [[0], [-1], [-4], [-4], [0, 192, 0, 7], SMALL_NUMBERS[:10] + [7]])


class Kept(SetCase):
    AFTER = SMALL_NUMBERS[:9] + [1] + SMALL_NUMBERS[10:]
    LEAVING = (read(b""), read(SMALL + b"x"), read(b"x" * 20001), make([], [], []), make([0, 1], [0, 1], [0, 0, 0]),
               make([0, 0], [0, 1], [0] * 4), make([0, 1], [0, 0], [0] * 4), make([0, 1], [0, 1], [0, 0, 0, -1]),
               text(), numbers(), at(1, 0), at(9, 9), write(5), write(LARGEST + 1), value(b"0-0-5"), value(b""))

    def test_other_calls_leave_what_was_set(self):
        for call in self.LEAVING:
            with self.subTest(call=call[:12]):
                told = ask(read(SMALL), set_to(1, 0, 1), call, at(1, 0), numbers())
                self.assertEqual(told[3:], [[0, 0, 0, 1], self.AFTER])

    def test_a_new_table_has_nothing_of_what_was_set(self):
        lists = plain_lists(2, 2)
        told = ask(read(SMALL), set_to(1, 0, 1), read(SMALL), numbers(), make(*lists), set_to(1, 0, 1), make(*lists), text(),
                   numbers())
        self.assertEqual(told[3], SMALL_NUMBERS)
        self.holds(told[7:], lists)


if __name__ == "__main__":
    unittest.main()
