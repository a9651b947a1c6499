"""The form in which calls are handed in and answers are given back."""

import contextlib
import io
import unittest

from keptheap.heap import answers
from lines import BIGGEST, alone, bind, collect, copied, count, deref, drop, find, flat, get, hand, holds, make, mark
from lines import path, put, same, told, weak

EIGHTY = flat([make(0, 1), weak(0, 0, 1), put(0, 0, 0), bind(0, 0, 0), copied(1, 0), get(1, 0, 2), deref(0, 3),
               same(2, 3), drop(0), same(12, 0)] * 8)
EIGHTY_ANSWERS = [1, 0, 1, 0, 1, 0, 1, 0, 1, 1, 1, 1, 1, 1, 1, 1, 1, 0, 1, -1] * 8
# One call of each kind, most of them twice, with the answers that the document asks for.
ALL_KINDS = flat([make(0, 2), make(1, 0), put(0, 1, 1), bind(0, 1, 0), find(0, 1, 2), mark(1), told(0), told(1),
                  holds(0, 1), holds(1, 0), path(0, 1), path(1, 0), path(0, 2), alone(1), count(), drop(1), drop(0),
                  weak(0, 2, 1), drop(2), collect(), count(), hand(3), told(3), deref(0, 4), copied(5, 3), same(5, 3),
                  get(3, 0, 6), told(6), collect(), count(), find(12, 0, 0)])
ALL_KINDS_ANSWERS = [1, 0, 1, 0, 1, 0, 1, 0, 1, 1, 1, 0, 4, 2, 0, 1, 0, 2, 0, 1, 1, 1, 1, 0, 2, 1, 1, 1, -4, 1, 0, 1, 0,
                     4, 0, 2, 1, 0, 1, 0, 1, 0, 1, 0, 1, 0, 1, 1, 4, 0, 1, 0, 1, 1, 1, 2, 0, 0, 1, 0, 1, 1, 1, 1, 1, -5,
                     1, -3, 1, 0, 4, 0, 1, 0, 0, 1, -1]


class Unchanging(list):
    """A list that can be read alone."""

    def refuse(self, *handed):
        raise AssertionError("what is handed in is not changed")

    append = extend = insert = pop = remove = clear = sort = reverse = refuse
    __setitem__ = __delitem__ = __iadd__ = __imul__ = refuse


class Interface(unittest.TestCase):
    def test_one_call(self):
        self.assertEqual(answers([1, 0, 0]), [1, 0])
        self.assertEqual(answers([1, 12, 0]), [1, -1])
        self.assertEqual(answers([2, 0, 0]), [1, 0])
        self.assertEqual(answers([3, 11]), [1, 0])
        self.assertEqual(answers([4, 0, BIGGEST, 0]), [1, -3])
        self.assertEqual(answers([5, 0, 0, 0]), [1, -3])
        self.assertEqual(answers([6, 0, 11]), [1, 1])
        self.assertEqual(answers([7, 0, 0, 1]), [1, 0])
        self.assertEqual(answers([8, 11, 11]), [1, 0])
        self.assertEqual(answers([9, 0, 0, 0]), [1, -3])
        self.assertEqual(answers([10, 0, 0, 0]), [1, -3])
        self.assertEqual(answers([11, 0]), [1, -3])
        self.assertEqual(answers([12, 0]), [1, 0])
        self.assertEqual(answers([13]), [1, 0])
        self.assertEqual(answers([14]), [4, 0, 0, 0, 0])
        self.assertEqual(answers([15, BIGGEST]), [1, -1])
        self.assertEqual(answers([16, 0, 0]), [1, -3])
        self.assertEqual(answers([17, 0]), [1, 0])
        self.assertEqual(answers([18, 0, 0]), [1, -3])

    def test_all_kinds(self):
        self.assertEqual(answers(list(ALL_KINDS)), ALL_KINDS_ANSWERS)

    def test_answers_of_several_numbers(self):
        self.assertEqual(answers([1, 0, 8, 15, 0]), [1, 0, 10, 8, 0, 0, 0, 0, 0, 0, 0, 0, 0])
        self.assertEqual(answers([1, 0, 0, 11, 0, 15, 0]), [1, 0, 1, 0, 2, 0, 1])
        self.assertEqual(answers([1, 0, 0, 18, 0, 0, 14]), [1, 0, 1, 0, 4, 0, 1, 0, 0])
        self.assertEqual(answers([1, 0, 3, 1, 1, 0, 5, 0, 2, 1, 18, 0, 1]), [1, 0, 1, 0, 1, 0, 2, 1, 2])

    def test_calls_one_behind_another(self):
        self.assertEqual(answers([1, 0, 2, 5, 0, 1, 0, 4, 0, 1, 3, 6, 3, 0]), [1, 0, 1, 0, 1, 1, 1, 1])

    def test_eighty_calls(self):
        self.assertEqual(answers(list(EIGHTY)), EIGHTY_ANSWERS)

    def test_numbers_of_a_call_are_not_taken_for_calls(self):
        self.assertEqual(answers([6, 6, 6, 9, 9, 9, 9, 3, 3, 1, 1, 1, 1, 1, 9]), [1, 1, 1, -3, 1, 0, 1, 0, 1, -1])
        self.assertEqual(answers([13, 14, 17, 11, 10, 10, 10, 10, 12, 18, 16, 13, 14]),
                         [1, 0, 4, 0, 0, 0, 0, 1, 0, 1, -3, 1, -1, 1, -1])

    def test_what_is_handed_in_is_as_it_was(self):
        for line in (EIGHTY, ALL_KINDS):
            calls = list(line)
            given = answers(calls)
            self.assertEqual(calls, line)
            given.clear()
            self.assertEqual(calls, line)

    def test_what_is_handed_in_is_not_changed_for_a_while_either(self):
        for line in (EIGHTY, ALL_KINDS):
            self.assertEqual(answers(Unchanging(line)), answers(list(line)))

    def test_nothing_is_kept(self):
        waits = flat([make(0, 1), mark(0), weak(0, 0, 1), drop(0), collect()])
        for calls in (EIGHTY, ALL_KINDS, waits, flat([make(0, 1)] * 48), [1, 0, 0, 7, 0, 0, 1, 9, 0, 0, 0]):
            first = answers(list(calls))
            self.assertEqual(answers(list(calls)), first)
            self.assertEqual(answers([6, 0, 1, 8, 0, 0, 9, 0, 0, 0, 1, 0, 0]), [1, 1, 1, 0, 1, -3, 1, 0])
            self.assertEqual(answers([14, 12, 0, 1, 0, 0, 15, 0]), [4, 0, 0, 0, 0, 1, 0, 1, 0, 2, 0, 0])

    def test_nothing_is_printed(self):
        out, err = io.StringIO(), io.StringIO()
        with contextlib.redirect_stdout(out), contextlib.redirect_stderr(err):
            answers(list(ALL_KINDS))
        self.assertEqual((out.getvalue(), err.getvalue()), ("", ""))

    def test_answers_are_a_list_of_whole_numbers(self):
        for line in (EIGHTY, ALL_KINDS):
            given = answers(list(line))
            self.assertIs(type(given), list)
            self.assertEqual({type(number) for number in given}, {int})

    def test_a_list_of_31000_numbers(self):
        self.assertEqual(answers([3, 0] * 15500), [1, 0] * 15500)


if __name__ == "__main__":
    unittest.main()
