"""Calls 7 and 8: weak names."""

import unittest

from lines import BIGGEST, ask, ask_after, copied, deref, drop, heap_after, make, same, weak


class Weak(unittest.TestCase):
    def test_names_what_the_root_names(self):
        for kind in (0, 1):
            self.assertEqual(ask(make(0, 0), weak(4, 0, kind), deref(4, 1), same(0, 1)), [0, 0, 1, 1])

    def test_first_and_last(self):
        self.assertEqual(ask(make(11, 0), make(0, 0), weak(0, 11, 0), weak(11, 0, 1), deref(0, 1), same(1, 11),
                             deref(11, 2), same(2, 0)), [0, 0, 0, 0, 1, 1, 1, 1])

    def test_empty_root_empties_it(self):
        self.assertEqual(ask(make(0, 0), weak(0, 0, 0), weak(0, 1, 0), deref(0, 0), same(0, 1)), [0, 0, 0, 0, 1])

    def test_it_stays_when_the_root_goes(self):
        before = [make(0, 0), copied(1, 0), weak(0, 0, 0), drop(0), make(0, 0)]
        self.assertEqual(ask_after(before, deref(0, 2), same(2, 1), same(2, 0)), [1, 1, 0])

    def test_it_outlives_all_roots_without_a_collection(self):
        for kind in (0, 1):
            before = [make(0, 0), weak(0, 0, kind), weak(1, 0, kind), drop(0)]
            self.assertEqual(ask_after(before, deref(0, 0), deref(1, 1), same(0, 1)), [1, 1, 1])

    def test_each_by_itself(self):
        before = [make(0, 0), make(1, 0), weak(0, 0, 0), weak(1, 1, 1), weak(2, 0, 1)]
        probes = (deref(0, 2), same(2, 0), deref(1, 2), same(2, 1), deref(2, 2), same(2, 0), deref(3, 2))
        self.assertEqual(ask_after(before, *probes), [1, 1, 1, 1, 1, 1, 0])

    def test_named_anew(self):
        before = [make(0, 0), make(1, 0), weak(0, 0, 0), weak(0, 1, 1)]
        self.assertEqual(ask_after(before, deref(0, 2), same(2, 1), same(2, 0)), [1, 1, 0])

    def test_kinds_are_kept(self):
        self.assertEqual(heap_after().weak_kinds, [0] * 12)
        heap = heap_after(make(0, 0), weak(0, 0, 1), weak(11, 5, 1), weak(3, 0, 1), weak(3, 0, 0))
        self.assertEqual(heap.weak_kinds, [1] + [0] * 10 + [1])

    def test_out_of_range(self):
        wrong = ((12, 0, 0), (0, 12, 0), (0, 0, 2), (12, 12, 2), (BIGGEST, 0, 0), (0, BIGGEST, 0), (0, 0, BIGGEST))
        for w, r, kind in wrong:
            before = [make(0, 0), make(1, 0), weak(0, 1, 1)]
            self.assertEqual(ask_after(before, weak(w, r, kind), deref(0, 2), same(1, 2)), [-1, 1, 1])
            self.assertEqual(heap_after(*before, weak(w, r, kind)).weak_kinds, [1] + [0] * 11)

    def test_out_of_range_with_an_empty_root(self):
        self.assertEqual(ask(weak(0, 0, 2), weak(12, 0, 0), weak(0, 0, 1)), [-1, -1, 0])


class Deref(unittest.TestCase):
    def test_empty_weak_name_empties_the_root(self):
        self.assertEqual(ask(make(0, 0), deref(0, 0), same(0, 1)), [0, 0, 1])
        self.assertEqual(ask(deref(11, 11)), [0])

    def test_weak_name_stays_as_it_is(self):
        before = [make(0, 0), weak(0, 0, 0), deref(0, 1), drop(1)]
        self.assertEqual(ask_after(before, deref(0, 1), same(0, 1)), [1, 1])
        before = [make(0, 0), weak(2, 0, 1), drop(0)]
        self.assertEqual(heap_after(*before, deref(2, 1)).weak_kinds, heap_after(*before).weak_kinds)

    def test_out_of_range(self):
        for w, r in ((12, 0), (0, 12), (12, 12), (BIGGEST, 0), (0, BIGGEST)):
            before = [make(0, 0), copied(1, 0)]
            self.assertEqual(ask_after(before, deref(w, r), same(0, 1), same(0, 2)), [-1, 1, 0])


if __name__ == "__main__":
    unittest.main()
