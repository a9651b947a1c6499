"""Calls 10, 11 and 12: what an entry has, marks, and those that are handed back."""

import unittest

from lines import BIGGEST, ask, ask_after, bind, collect, copied, count, deref, drop, find, full_of_entries, get
from lines import hand, heap_after, make, mark, path, put, same, seen, told, weak

THREE = [make(0, 0), make(1, 0), make(2, 0)]


class Find(unittest.TestCase):
    def test_root_names_the_value(self):
        self.assertEqual(ask_after(THREE + [bind(0, 1, 2)], find(0, 1, 3), same(3, 2)), [1, 1])

    def test_no_entry_empties_the_root(self):
        self.assertEqual(ask_after(THREE + [copied(3, 0)], find(0, 1, 3), same(3, 4)), [0, 1])

    def test_table_and_key_are_told_apart(self):
        before = THREE + [bind(0, 1, 2)]
        self.assertEqual(ask_after(before, find(1, 0, 3), find(0, 0, 3), find(0, 2, 3), find(1, 1, 3)), [0, 0, 0, 0])

    def test_each_entry_by_itself(self):
        before = THREE + [bind(0, 1, 2), bind(1, 0, 0), bind(0, 2, 1)]
        probes = [find(0, 1, 3), same(3, 2), find(1, 0, 3), same(3, 0), find(0, 2, 3), same(3, 1)]
        self.assertEqual(ask_after(before, *probes), [1] * 6)

    def test_bound_anew_and_taken_away(self):
        before = THREE + [bind(0, 1, 2), bind(0, 1, 0)]
        self.assertEqual(ask_after(before, find(0, 1, 3), same(3, 0), bind(0, 1, 9), find(0, 1, 3)), [1, 1, 0, 0])

    def test_entry_stays_as_it_is(self):
        before = THREE + [bind(0, 1, 2)]
        self.assertEqual(ask_after(before, find(0, 1, 3), drop(3), find(0, 1, 4), same(4, 2)), [1, 0, 1, 1])
        self.assertEqual(heap_after(*before, find(0, 1, 3)).entries, heap_after(*before).entries)

    def test_into_the_root_of_table_or_key(self):
        before = THREE + [bind(0, 1, 2)]
        self.assertEqual(ask_after(before, find(0, 1, 0), same(0, 2)), [1, 1])
        self.assertEqual(ask_after(before, find(0, 1, 1), same(1, 2)), [1, 1])
        self.assertEqual(ask_after(before, find(1, 0, 1), same(1, 5)), [0, 1])

    def test_one_object_for_all_three(self):
        self.assertEqual(ask(make(11, 0), bind(11, 11, 11), find(11, 11, 0), same(0, 11)), [0, 0, 1, 1])

    def test_entry_is_of_the_objects_not_of_the_roots(self):
        before = THREE + [bind(0, 1, 2), copied(5, 0), copied(6, 1), make(0, 0), make(1, 0), drop(2)]
        self.assertEqual(ask_after(before, find(0, 1, 3), find(5, 6, 3), find(5, 1, 4)), [0, 1, 0])

    def test_48_entries(self):
        probes = [find(6, 5, 11), same(11, 0), find(6, 6, 11), same(11, 10)]
        self.assertEqual(ask_after(full_of_entries(), *probes), [1, 1, 0, 1])

    def test_out_of_range(self):
        for wrong in (12, 13, BIGGEST):
            for call in (find(wrong, 0, 0), find(0, wrong, 0), find(0, 0, wrong), find(wrong, wrong, wrong)):
                self.assertEqual(ask_after(THREE, call), [-1])

    def test_out_of_range_is_ahead_of_an_empty_root(self):
        for call in (find(11, 12, 0), find(12, 11, 0), find(11, 0, 12), find(0, 11, 12), find(11, 11, 12)):
            self.assertEqual(ask_after(THREE, call), [-1])

    def test_empty_table_or_key(self):
        for call in (find(3, 0, 0), find(0, 3, 0), find(3, 3, 0), find(3, 3, 3)):
            self.assertEqual(ask_after(THREE, call, same(0, 0), same(0, 3)), [-3, 1, 0])

    def test_empty_root_for_the_value(self):
        self.assertEqual(ask_after(THREE + [bind(0, 0, 0)], find(0, 0, 9), find(0, 1, 10)), [1, 0])


class Mark(unittest.TestCase):
    def test_object_is_marked(self):
        self.assertEqual(ask(make(0, 0), told(0), mark(0), told(0)), [0, [0, 0], 0, [0, 1]])

    def test_object_alone_is_marked(self):
        before = [make(0, 1), make(1, 0), put(0, 0, 1)]
        self.assertEqual(ask_after(before, mark(0), told(0), told(1)), [0, [1, 1, 1], [0, 0]])
        self.assertEqual(ask_after(before, mark(1), told(0), told(1)), [0, [1, 1, 0], [0, 1]])

    def test_mark_is_the_objects_not_the_roots(self):
        before = [make(11, 0), copied(1, 11), mark(11), make(11, 0)]
        self.assertEqual(ask_after(before, told(1), told(11)), [[0, 1], [0, 0]])

    def test_marked_twice(self):
        before = [make(0, 0), mark(0), mark(0)]
        self.assertEqual(ask_after(before, told(0), drop(0), collect(), count()), [[0, 1], 0, 0, [0, 1, 0, 1]])

    def test_nothing_else_is_changed(self):
        before = THREE + [bind(0, 1, 2), weak(0, 0, 1)]
        old, new = seen(heap_after(*before)), seen(heap_after(*before, mark(0)))
        self.assertEqual((old.pop("marked"), new.pop("marked")), ({}, {0: True}))
        self.assertEqual(old, new)

    def test_refusals(self):
        for r in (12, BIGGEST):
            self.assertEqual(ask_after(THREE, mark(r)), [-1])
        self.assertEqual(ask_after(THREE, mark(3), mark(11)), [-3, -3])
        self.assertEqual(ask(make(0, 0), drop(0), mark(0), copied(1, 0), mark(1)), [0, 0, -3, 0, -3])


class Hand(unittest.TestCase):
    def test_nobody_waits(self):
        self.assertEqual(ask(make(0, 0), hand(0), same(0, 1), hand(1), hand(11)), [0, 0, 1, 0, 0])

    def test_marked_objects_do_not_wait_before_a_collection(self):
        self.assertEqual(ask(make(0, 0), mark(0), drop(0), hand(0), count()), [0, 0, 0, 0, [0, 1, 0, 0]])

    def test_reached_objects_do_not_wait(self):
        self.assertEqual(ask(make(0, 0), mark(0), collect(), hand(1), told(0)), [0, 0, 0, 0, [0, 1]])

    def test_first_that_waits_is_named_and_waits_no_more(self):
        before = [make(0, 1), mark(0), make(0, 2), mark(0), make(0, 3), mark(0), drop(0), collect()]
        probes = [count(), hand(1), told(1), count(), hand(0), told(0), hand(11), told(11), count(), hand(11),
                  same(11, 5), count()]
        self.assertEqual(ask_after(before, *probes),
                         [[0, 3, 0, 3], 1, [1, 0, 0], [0, 3, 0, 2], 1, [2, 0, 0, 0], 1, [3, 0, 0, 0, 0],
                          [0, 3, 0, 0], 0, 1, [0, 3, 0, 0]])

    def test_it_is_the_very_object(self):
        before = [make(0, 1), make(1, 0), put(0, 0, 1), weak(3, 0, 1), mark(0), drop(0), collect()]
        self.assertEqual(ask_after(before, hand(5), get(5, 0, 6), same(6, 1), deref(3, 7), same(7, 5)),
                         [1, 1, 1, 1, 1])

    def test_handed_into_a_root_that_names_another(self):
        before = [make(0, 0), mark(0), make(0, 4), collect()]
        self.assertEqual(ask_after(before, told(0), hand(0), told(0)), [[4, 0, 0, 0, 0, 0], 1, [0, 0]])

    def test_out_of_range(self):
        before = [make(0, 0), mark(0), drop(0), collect()]
        for r in (12, 13, BIGGEST):
            self.assertEqual(ask_after(before, hand(r), count(), hand(0), hand(r)), [-1, [0, 1, 0, 1], 1, -1])
            self.assertEqual(ask(hand(r)), [-1])

    def test_handed_object_is_kept_by_its_root_alone(self):
        before = [make(0, 1), mark(0), drop(0), collect(), hand(2)]
        self.assertEqual(ask_after(before, collect(), told(2), path(2, 2), drop(2), collect(), count()),
                         [0, [1, 0, 0], [0], 0, 1, [0, 0, 0, 0]])


if __name__ == "__main__":
    unittest.main()
