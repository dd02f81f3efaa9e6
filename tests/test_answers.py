"""The interface: calls in one list, answers in one list."""

import unittest

import offsettables.tables
from offsettables.tables import answers
from tests.calling import SMALL, SMALL_NUMBERS, ask, make, numbers, plain_lists, read, text, written_table


class Answers(unittest.TestCase):
    def test_the_count_before_each_answer(self):
        self.assertEqual(answers([3]), [1, -5])
        self.assertEqual(answers([4]), [1, -5])
        self.assertEqual(answers([1, 0]), [3, 0, 1, 0])
        self.assertEqual(answers([1, 2, 115, 0]), [3, 0, 1, 1])
        self.assertEqual(answers([1, 20001] + [0] * 20001), [1, -1])
        self.assertEqual(answers([2, 0, 0, 0]), [3, 0, 2, 0])
        self.assertEqual(answers([2, 2, 0, 1, 2, 0, 1, 4, 5, 6, 7, 8, 4]),
                         [3, 0, 0, 0, 11, 0, 2, 2, 0, 1, 0, 1, 5, 6, 7, 8])

    def test_several_calls(self):
        calls = text() + read(SMALL) + numbers() + text() + make([], [], []) + read([]) + text()
        self.assertEqual(answers(calls),
                         [1, -5, 3, 0, 0, 0, len(SMALL_NUMBERS)] + SMALL_NUMBERS
                         + [1 + len(SMALL), 0] + list(SMALL) + [3, 0, 2, 0] + [3, 0, 1, 0]
                         + [1 + len(SMALL), 0] + list(SMALL))

    def test_read_and_make_in_turn(self):
        lists = plain_lists(3, 4)
        given = list(written_table(*lists))
        told = ask(make(*lists), text(), read(SMALL), text(), make(*lists), text())
        self.assertEqual(told[1::2], [[0] + given, [0] + list(SMALL), [0] + given])

    def test_as_many_calls_as_there_may_be(self):
        self.assertEqual(answers(read(SMALL) + [4] * 299),
                         [3, 0, 0, 0] + ([len(SMALL_NUMBERS)] + SMALL_NUMBERS) * 299)

    def test_a_long_list(self):
        long = [1, 20000] + list(b"stations ") + [49] * 19991
        self.assertEqual(answers(long + [1, 9000] + [0] * 9000 + [3]), [3, 0, 1, 20000, 3, 0, 1, 0, 1, -5])

    def test_what_is_handed_in_stays_as_it_was(self):
        calls = read(SMALL) + make(*plain_lists(4, 4)) + text() + numbers() + make([1], [], []) + read(b"x")
        before = list(calls)
        given = answers(calls)
        self.assertEqual(calls, before)
        given.clear()
        self.assertEqual(calls, before)

    def test_nothing_is_kept_from_one_time_to_the_next(self):
        calls = text() + read(SMALL) + text() + numbers()
        first = answers(calls)
        self.assertEqual(answers(text() + numbers()), [1, -5, 1, -5])
        self.assertEqual(answers(calls), first)
        first.clear()
        self.assertEqual(answers(numbers()), [1, -5])

    def test_numbers_of_no_call(self):
        for number in (0, -1, 9):
            with self.assertRaises(offsettables.tables.UnknownCall):
                answers([4, number])

    def test_whole_numbers_in_a_list(self):
        given = offsettables.tables.answers(read(SMALL) + text() + numbers() + make([], [], []))
        self.assertIs(type(given), list)
        self.assertEqual({type(number) for number in given}, {int})


if __name__ == "__main__":
    unittest.main()
