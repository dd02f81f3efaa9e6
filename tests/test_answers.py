"""The interface: calls in one list, answers in one list."""

import unittest

import offsettables.tables
from offsettables.tables import answers
from tests.calling import (SMALL, SMALL_NUMBERS, apart, ask, at, make, numbers, plain_lists, read, set_to, text, value,
                           write, written_table)

# All eight calls, and what each answers, with its count before it.
EIGHT = [
    (read(SMALL), [3, 0, 0, 0]),
    (at(1, 0), [4, 0, 0, 0, 0]),
    (set_to(1, 0, 33), [1, 0]),
    (numbers(), [11] + SMALL_NUMBERS[:9] + [33, 651]),
    (value(b"-3-4-5+"), [2, 0, -651]),
    (write(-651), [8, 0] + list(b"-3-4-5+")),
    (make([0, 1], [0, 1], [5, 6, 7, 8]), [3, 0, 0, 0]),
    (text(), [76, 0] + list(b"stations 0-0-0 0-0-0+\nlevel 0-0-0: 0-0-2+ 0-0-3\nlevel 0-0-0+: 0-0-3+ 0-0-4\n")),
]


class Answers(unittest.TestCase):
    def test_the_count_before_each_answer(self):
        self.assertEqual(answers([3]), [1, -5])
        self.assertEqual(answers([4]), [1, -5])
        self.assertEqual(answers([1, 0]), [3, 0, 1, 0])
        self.assertEqual(answers([1, 2, 115, 0]), [3, 0, 1, 1])
        self.assertEqual(answers([1, 20001] + [0] * 20001), [1, -1])
        self.assertEqual(answers([2, 0, 0, 0]), [3, 0, 2, 0])
        self.assertEqual(answers([2, 2, 0, 1, 2, 0, 1, 4, 5, 6, 7, 8, 4]),
                         [3, 0, 0, 0, 11, 0, 2, 2, 0, 1, 0, 1, 5, 6, 7, 8])

    def test_the_count_before_the_answers_of_at_set_write_value(self):
        self.assertEqual(answers([5, 0, 0]), [1, -5])
        self.assertEqual(answers([6, 0, 0, 0]), [1, -5])
        self.assertEqual(answers([7, 0]), [6, 0, 48, 45, 48, 45, 48])
        self.assertEqual(answers([7, 1048576]), [1, -1])
        self.assertEqual(answers([8, 5, 48, 45, 48, 45, 49]), [2, 0, 2])
        self.assertEqual(answers([8, 0]), [1, -6])
        self.assertEqual(answers([2, 2, 0, 1, 2, 0, 1, 4, 5, 6, 7, 8, 5, 1, 0, 6, 1, 0, 9, 5, 1, 0, 5, 2, 0, 6, 0, 0, -1]),
                         [3, 0, 0, 0, 4, 0, 0, 1, 7, 1, 0, 4, 0, 0, 1, 9, 1, -4, 1, -1])

    def test_all_eight_calls(self):
        calls = [number for call, told in EIGHT for number in call]
        given = [number for call, told in EIGHT for number in told]
        before = list(calls)
        self.assertEqual(answers(calls), given)
        self.assertEqual(calls, before)
        self.assertEqual(answers(calls), given)
        self.assertEqual(calls, before)

    def test_all_eight_calls_without_a_table(self):
        told = ask(*[call for call, told in EIGHT if call[0] not in (1, 2)])
        self.assertEqual(told, [[-5], [-5], [-5], [0, -651], [0] + list(b"-3-4-5+"), [-5]])

    def test_300_of_all_eight_calls(self):
        turns = [EIGHT[k % 8] for k in range(300)]
        calls = [number for call, told in turns for number in call]
        before = list(calls)
        self.assertLessEqual(len(calls), 30000)
        given = answers(calls)
        self.assertEqual(given, [number for call, told in turns for number in told])
        self.assertEqual(len(apart(given)), 300)
        self.assertEqual(calls, before)

    def test_what_is_set_is_not_set_the_next_time(self):
        calls = make(*plain_lists(3, 3)) + at(2, 2)
        first = answers(calls)
        answers(make(*plain_lists(3, 3)) + set_to(2, 2, 4321) + at(2, 2))
        self.assertEqual(answers(calls), first)
        self.assertEqual(answers(at(0, 0) + set_to(0, 0, 0)), [1, -5, 1, -5])

    def test_several_calls(self):
        calls = text() + read(SMALL) + numbers() + text() + make([], [], []) + read([]) + text()
        self.assertEqual(answers(calls),
                         [1, -5, 3, 0, 0, 0, len(SMALL_NUMBERS)] + SMALL_NUMBERS
                         + [1 + len(SMALL), 0] + list(SMALL) + [3, 0, 2, 0] + [3, 0, 1, 0]
                         + [1 + len(SMALL), 0] + list(SMALL))

    def test_read_and_make_in_turn(self):
        lists = plain_lists(3, 4)
        given = list(written_table(*lists))
        told = ask(make(*lists), text(), read(SMALL), text(), make(*lists), text())
        self.assertEqual(told[1::2], [[0] + given, [0] + list(SMALL), [0] + given])

    def test_as_many_calls_as_there_may_be(self):
        self.assertEqual(answers(read(SMALL) + [4] * 299),
                         [3, 0, 0, 0] + ([len(SMALL_NUMBERS)] + SMALL_NUMBERS) * 299)

    def test_a_long_list(self):
        long = [1, 20000] + list(b"stations ") + [49] * 19991
        self.assertEqual(answers(long + [1, 9000] + [0] * 9000 + [3]), [3, 0, 1, 20000, 3, 0, 1, 0, 1, -5])

    def test_what_is_handed_in_stays_as_it_was(self):
        calls = read(SMALL) + make(*plain_lists(4, 4)) + text() + numbers() + make([1], [], []) + read(b"x")
        before = list(calls)
        given = answers(calls)
        self.assertEqual(calls, before)
        given.clear()
        self.assertEqual(calls, before)

    def test_nothing_is_kept_from_one_time_to_the_next(self):
        calls = text() + read(SMALL) + text() + numbers()
        first = answers(calls)
        self.assertEqual(answers(text() + numbers()), [1, -5, 1, -5])
        self.assertEqual(answers(calls), first)
        first.clear()
        self.assertEqual(answers(numbers()), [1, -5])

    def test_numbers_of_no_call(self):
        for number in (0, -1, 9):
            with self.assertRaises(offsettables.tables.UnknownCall):
                answers([4, number])

    def test_whole_numbers_in_a_list(self):
        given = offsettables.tables.answers([number for call, told in EIGHT for number in call] + make([], [], []))
        self.assertIs(type(given), list)
        self.assertEqual({type(number) for number in given}, {int})


if __name__ == "__main__":
    unittest.main()
