"""Calls 14 and 15: what there is, and what an object has."""

import unittest

from lines import BIGGEST, ask, ask_after, bind, collect, copied, count, drop, full_of_entries, full_of_objects, hand
from lines import heap_after, make, mark, put, seen, told, weak


class Count(unittest.TestCase):
    def test_nothing_is_there(self):
        self.assertEqual(ask(count()), [[0, 0, 0, 0]])

    def test_objects(self):
        self.assertEqual(ask(make(0, 8), count(), make(1, 0), count()), [0, [0, 1, 0, 0], 0, [0, 2, 0, 0]])

    def test_objects_that_cannot_be_reached_are_among_them(self):
        before = [make(0, 0), make(0, 0), drop(0)]
        self.assertEqual(ask_after(before, count(), collect(), count()), [[0, 2, 0, 0], 2, [0, 0, 0, 0]])

    def test_entries(self):
        before = [make(0, 0), make(1, 0)]
        probes = [bind(0, 1, 0), count(), bind(1, 0, 0), count(), bind(1, 0, 1), count(), bind(0, 1, 5), count(),
                  bind(0, 1, 5), count()]
        self.assertEqual([row[2] for row in ask_after(before, *probes)[1::2]], [1, 2, 2, 1, 1])

    def test_entries_that_cannot_be_reached_are_among_them(self):
        before = [make(0, 0), bind(0, 0, 0), drop(0)]
        self.assertEqual(ask_after(before, count(), collect(), count()), [[0, 1, 1, 0], 1, [0, 0, 0, 0]])

    def test_those_that_wait(self):
        before = [make(0, 0), make(1, 0), mark(0), mark(1), drop(0), drop(1)]
        self.assertEqual(ask_after(before, count(), collect(), count(), hand(0), count(), hand(0), count(), collect(),
                                   count()),
                         [[0, 2, 0, 0], 0, [0, 2, 0, 2], 1, [0, 2, 0, 1], 1, [0, 2, 0, 0], 1, [0, 1, 0, 0]])

    def test_full(self):
        self.assertEqual(ask_after(full_of_objects(), count(), make(0, 0), count()), [[0, 48, 0, 0], -2, [0, 48, 0, 0]])
        self.assertEqual(ask_after(full_of_entries(), count(), bind(6, 6, 0), count()),
                         [[0, 7, 48, 0], -2, [0, 7, 48, 0]])

    def test_nothing_is_changed(self):
        before = [make(0, 1), bind(0, 0, 0), mark(0), weak(0, 0, 1), drop(0), collect()]
        self.assertEqual(seen(heap_after(*before)), seen(heap_after(*before, count(), count())))


class Told(unittest.TestCase):
    def test_how_many_slots(self):
        for n in range(9):
            self.assertEqual(ask(make(0, n), told(0)), [0, [n] + [0] * n + [0]])
            self.assertEqual(ask(make(11, n), mark(11), told(11)), [0, 0, [n] + [0] * n + [1]])

    def test_each_slot(self):
        before = [make(0, 4), make(1, 0), put(0, 1, 1), put(0, 3, 0)]
        self.assertEqual(ask_after(before, told(0), put(0, 3, 9), told(0), told(1)),
                         [[4, 0, 1, 0, 1, 0], 0, [4, 0, 1, 0, 0, 0], [0, 0]])

    def test_a_slot_names_the_first_object(self):
        self.assertEqual(ask(make(0, 1), put(0, 0, 0), told(0)), [0, 0, [1, 1, 0]])

    def test_it_is_told_of_the_object_not_of_the_root(self):
        before = [make(0, 1), copied(1, 0), mark(0), put(1, 0, 0), make(0, 2)]
        self.assertEqual(ask_after(before, told(1), told(0)), [[1, 1, 1], [2, 0, 0, 0]])

    def test_entries_and_weak_names_are_not_told(self):
        self.assertEqual(ask(make(0, 1), bind(0, 0, 0), weak(0, 0, 1), told(0)), [0, 0, 0, [1, 0, 0]])

    def test_nothing_is_changed(self):
        before = [make(0, 2), put(0, 1, 0), mark(0)]
        self.assertEqual(seen(heap_after(*before)), seen(heap_after(*before, told(0), told(1), told(12))))

    def test_refusals(self):
        for r in (12, 13, BIGGEST):
            self.assertEqual(ask(make(0, 0), told(r)), [0, -1])
        self.assertEqual(ask(told(0), make(0, 0), told(1), drop(0), told(0)), [-3, 0, -3, 0, -3])


if __name__ == "__main__":
    unittest.main()
