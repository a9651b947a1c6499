"""The form in which calls are handed in and answers are given back."""

import unittest

from keptheap.heap import answers
from lines import BIGGEST, bind, copied, deref, drop, flat, get, make, put, same, weak

EIGHTY = flat([make(0, 1), weak(0, 0, 1), put(0, 0, 0), bind(0, 0, 0), copied(1, 0), get(1, 0, 2), deref(0, 3),
               same(2, 3), drop(0), same(12, 0)] * 8)
EIGHTY_ANSWERS = [1, 0, 1, 0, 1, 0, 1, 0, 1, 1, 1, 1, 1, 1, 1, 1, 1, 0, 1, -1] * 8


class Interface(unittest.TestCase):
    def test_one_call(self):
        self.assertEqual(answers([1, 0, 0]), [1, 0])
        self.assertEqual(answers([1, 12, 0]), [1, -1])
        self.assertEqual(answers([2, 0, 0]), [1, 0])
        self.assertEqual(answers([3, 11]), [1, 0])
        self.assertEqual(answers([4, 0, BIGGEST, 0]), [1, -3])
        self.assertEqual(answers([5, 0, 0, 0]), [1, -3])
        self.assertEqual(answers([6, 0, 11]), [1, 1])
        self.assertEqual(answers([7, 0, 0, 1]), [1, 0])
        self.assertEqual(answers([8, 11, 11]), [1, 0])
        self.assertEqual(answers([9, 0, 0, 0]), [1, -3])

    def test_calls_one_behind_another(self):
        self.assertEqual(answers([1, 0, 2, 5, 0, 1, 0, 4, 0, 1, 3, 6, 3, 0]), [1, 0, 1, 0, 1, 1, 1, 1])

    def test_eighty_calls(self):
        self.assertEqual(answers(list(EIGHTY)), EIGHTY_ANSWERS)

    def test_numbers_of_a_call_are_not_taken_for_calls(self):
        self.assertEqual(answers([6, 6, 6, 9, 9, 9, 9, 3, 3, 1, 1, 1, 1, 1, 9]), [1, 1, 1, -3, 1, 0, 1, 0, 1, -1])

    def test_what_is_handed_in_is_as_it_was(self):
        calls = list(EIGHTY)
        given = answers(calls)
        self.assertEqual(calls, EIGHTY)
        given.clear()
        self.assertEqual(calls, EIGHTY)

    def test_nothing_is_kept(self):
        for calls in (EIGHTY, flat([make(0, 1)] * 48), [1, 0, 0, 7, 0, 0, 1, 9, 0, 0, 0]):
            first = answers(list(calls))
            self.assertEqual(answers(list(calls)), first)
            self.assertEqual(answers([6, 0, 1, 8, 0, 0, 9, 0, 0, 0, 1, 0, 0]), [1, 1, 1, 0, 1, -3, 1, 0])

    def test_answers_are_a_list_of_whole_numbers(self):
        given = answers(list(EIGHTY))
        self.assertIs(type(given), list)
        self.assertEqual({type(number) for number in given}, {int})

    def test_a_list_of_31000_numbers(self):
        self.assertEqual(answers([3, 0] * 15500), [1, 0] * 15500)


if __name__ == "__main__":
    unittest.main()
