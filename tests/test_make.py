"""Promise 2: make."""

import unittest

from tests.calling import (HIGHEST_HANDED, LARGEST, LOWEST_HANDED, SMALL, SMALL_NUMBERS, ask, make, numbers,
                           plain_lists, read, text)


def changed(numbers_before, k, number):
    after = list(numbers_before)
    after[k] = number
    return after


class MakeCase(unittest.TestCase):
    def told(self, answer, places, heights, half_breadths):
        self.assertEqual(ask(make(places, heights, half_breadths)), [[0] + answer])


class Made(MakeCase):
    def test_the_fewest_and_the_most(self):
        for stations, levels in ((2, 2), (2, 16), (24, 2), (24, 16), (7, 5)):
            with self.subTest(stations=stations, levels=levels):
                places, heights, breadths = plain_lists(stations, levels)
                told = ask(make(places, heights, breadths), numbers())
                self.assertEqual(told, [[0, 0, 0], [0, stations, levels] + places + heights + breadths])

    def test_the_bounds_of_numbers(self):
        self.told([0, 0], [0, LARGEST], [-LARGEST, LARGEST], [0, LARGEST, 1, LARGEST - 1])

    def test_the_last_table_made_is_the_objects(self):
        told = ask(make([0, 1], [0, 1], [1, 2, 3, 4]), make([5, 6], [-8, 7], [4, 3, 2, 1]), numbers())
        self.assertEqual(told[2], [0, 2, 2, 5, 6, -8, 7, 4, 3, 2, 1])


class Counts(MakeCase):
    def test_stations(self):
        for stations in (0, 1, 25, 40):
            with self.subTest(stations=stations):
                self.told([2, 0], range(stations), [0, 1], [0] * (2 * stations))

    def test_levels(self):
        for levels in (0, 1, 17, 40):
            with self.subTest(levels=levels):
                self.told([2, 1], [0, 1], range(levels), [0] * (2 * levels))

    def test_half_breadths(self):
        for stations, levels, breadths in ((2, 2, 0), (2, 2, 3), (2, 2, 5), (24, 16, 383), (24, 16, 385), (3, 5, 600)):
            with self.subTest(stations=stations, levels=levels, breadths=breadths):
                self.told([1, breadths], range(stations), range(levels), [0] * breadths)


class Numbers(MakeCase):
    PLACES, HEIGHTS, BREADTHS = plain_lists(4, 3)
    TOO_HIGH = (LARGEST + 1, HIGHEST_HANDED)
    BELOW_0 = (-1, -LARGEST, -LARGEST - 1, LOWEST_HANDED)
    TOO_LOW = (-LARGEST - 1, LOWEST_HANDED)

    def test_places_that_are_none(self):
        for k in range(4):
            for number in self.TOO_HIGH + self.BELOW_0:
                with self.subTest(k=k, number=number):
                    self.told([3, k], changed(self.PLACES, k, number), self.HEIGHTS, self.BREADTHS)

    def test_places_that_do_not_rise(self):
        for k in range(1, 4):
            for number in (self.PLACES[k - 1], self.PLACES[k - 1] - 1):
                with self.subTest(k=k, number=number):
                    wrong = changed([place + 1 for place in self.PLACES], k, number + 1)
                    self.told([3, k], wrong, self.HEIGHTS, self.BREADTHS)

    def test_heights_that_are_none(self):
        for k in range(3):
            for number in self.TOO_HIGH + self.TOO_LOW:
                with self.subTest(k=k, number=number):
                    self.told([4, k], self.PLACES, changed(self.HEIGHTS, k, number), self.BREADTHS)

    def test_heights_that_do_not_rise(self):
        for k in range(1, 3):
            for number in (self.HEIGHTS[k - 1], self.HEIGHTS[k - 1] - 1, -LARGEST):
                with self.subTest(k=k, number=number):
                    self.told([4, k], self.PLACES, changed(self.HEIGHTS, k, number), self.BREADTHS)

    def test_half_breadths_that_are_none(self):
        for k in range(12):
            for number in self.TOO_HIGH + self.BELOW_0:
                with self.subTest(k=k, number=number):
                    self.told([5, k], self.PLACES, self.HEIGHTS, changed(self.BREADTHS, k, number))

    def test_the_last_of_the_most(self):
        places, heights, breadths = plain_lists(24, 16)
        self.told([3, 23], changed(places, 23, places[22]), heights, breadths)
        self.told([4, 15], places, changed(heights, 15, heights[14]), breadths)
        self.told([5, 383], places, heights, changed(breadths, 383, -1))

    def test_steps_of_one_rise(self):
        self.told([0, 0], [0, 1, 2], [-1, 0, 1], [0] * 9)

    def test_half_breadths_need_not_rise(self):
        self.told([0, 0], [0, 1], [0, 1], [9, 9, 8, 7])


class Order(MakeCase):
    def test_each_kind_goes_before_the_next(self):
        self.told([2, 0], [-1], [9, 9, LARGEST + 1], [-1])
        self.told([2, 0], [-1], [9], [-1])
        self.told([2, 1], [-1, -1], [9], [-1])
        self.told([1, 1], [-1, -1], [9, 9], [-1])
        self.told([3, 0], [-1, -1], [9, 9], [-1] * 4)
        self.told([4, 1], [0, 1], [9, 9], [-1] * 4)
        self.told([5, 0], [0, 1], [8, 9], [-1] * 4)

    def test_the_first_of_several(self):
        self.told([3, 1], [5, 5, -1, LARGEST + 1], [0, 1], [0] * 8)
        self.told([3, 1], [5, LARGEST + 1, 5], [0, 1], [0] * 6)
        self.told([3, 1], [5, -1, 3, 2], [0, 1], [0] * 8)
        self.told([4, 1], [0, 1], [5, 5, LARGEST + 1], [0] * 6)
        self.told([4, 1], [0, 1], [5, LARGEST + 1, 5], [0] * 6)
        self.told([4, 0], [0, 1], [LARGEST + 1, 5, 5], [0] * 6)
        self.told([5, 2], [0, 1], [0, 1], [0, 0, -1, LARGEST + 1])


class Kept(MakeCase):
    FAULTY = (
        ([], [], []),
        ([0], [0, 1], [0, 0]),
        ([0, 1], [0], [0, 0]),
        ([0, 1], [0, 1], [0, 0, 0]),
        ([0, 0], [0, 1], [0, 0, 0, 0]),
        ([0, 1], [0, 0], [0, 0, 0, 0]),
        ([0, 1], [0, 1], [0, 0, 0, -1]),
    )

    def test_a_new_object_stays_without_table(self):
        for lists in self.FAULTY:
            with self.subTest(lists=lists):
                self.assertEqual(ask(make(*lists), text(), numbers())[1:], [[-5], [-5]])

    def test_the_table_stays(self):
        for lists in self.FAULTY:
            with self.subTest(lists=lists):
                told = ask(read(SMALL), make(*lists), text(), numbers())
                self.assertEqual(told[2:], [[0] + list(SMALL), SMALL_NUMBERS])


if __name__ == "__main__":
    unittest.main()
