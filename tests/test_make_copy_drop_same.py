"""Calls 1, 2, 3 and 6: roots and the objects that they name."""

import unittest

from lines import BIGGEST, ask, ask_after, copied, drop, full_of_objects, get, heap_after, make, put, same


class Make(unittest.TestCase):
    def test_root_names_a_new_object(self):
        self.assertEqual(ask(make(3, 2), make(4, 2), same(3, 4), same(3, 3), same(3, 5)), [0, 0, 0, 1, 0])

    def test_first_and_last_root(self):
        self.assertEqual(ask(make(0, 0), make(11, 0), same(0, 5), same(11, 5)), [0, 0, 0, 0])

    def test_no_slot_and_eight_slots(self):
        none = [make(0, 0)]
        self.assertEqual(ask_after(none, get(0, 0, 1), put(0, 0, 0)), [-5, -5])
        eight = [make(0, 8)]
        for k in range(8):
            self.assertEqual(ask_after(eight, get(0, k, 1), put(0, k, 0), get(0, k, 1), same(0, 1)), [0, 0, 1, 1])
        self.assertEqual(ask_after(eight, get(0, 8, 1), put(0, 8, 0)), [-5, -5])

    def test_slots_are_empty_at_first(self):
        probes = []
        for k in range(8):
            probes = probes + [copied(1, 0), get(0, k, 1), same(1, 2)]
        self.assertEqual(ask_after([make(0, 8)], *probes), [1, 0, 1] * 8)

    def test_root_leaves_its_old_object(self):
        before = [make(0, 1), copied(1, 0), make(0, 3)]
        self.assertEqual(ask_after(before, same(0, 1), get(0, 2, 5), get(1, 1, 5), get(1, 0, 5)), [0, 0, -5, 0])

    def test_slots_of_two_objects_are_their_own(self):
        before = [make(0, 2), make(1, 2), put(0, 1, 0)]
        self.assertEqual(ask_after(before, get(1, 1, 2), get(0, 1, 2), get(0, 0, 2)), [0, 1, 0])

    def test_out_of_range(self):
        for r, n in ((12, 0), (BIGGEST, 0), (0, 9), (0, BIGGEST), (12, 9), (BIGGEST, BIGGEST)):
            self.assertEqual(ask(make(r, n), same(0, 1)), [-1, 1])

    def test_48th_and_49th_object(self):
        self.assertEqual(ask(*[make(0, 1)] * 50), [0] * 48 + [-2] * 2)

    def test_objects_of_many_roots_count_together(self):
        self.assertEqual(ask(*[make(place % 12, place % 9) for place in range(49)]), [0] * 48 + [-2])

    def test_out_of_range_is_looked_for_ahead_of_full(self):
        self.assertEqual(ask_after(full_of_objects(), make(12, 0), make(0, 9), make(11, 8)), [-1, -1, -2])

    def test_refused_makes_do_not_count(self):
        before = [make(12, 0)] * 10 + [make(0, 9)] * 10
        self.assertEqual(ask_after(before, *[make(0, 0)] * 49), [0] * 48 + [-2])

    def test_root_is_as_before_when_full(self):
        before = full_of_objects() + [copied(1, 0)]
        self.assertEqual(ask_after(before, make(0, 5), same(0, 1), make(2, 0), same(2, 3)), [-2, 1, -2, 1])

    def test_dropped_objects_still_count(self):
        before = full_of_objects() + [drop(0), put(0, 0, 0), copied(5, 6)]
        self.assertEqual(ask_after(before, make(0, 0)), [-2])


class Copy(unittest.TestCase):
    def test_both_roots_name_one_object(self):
        self.assertEqual(ask(make(0, 1), copied(11, 0), same(0, 11)), [0, 1, 1])

    def test_it_is_the_object_and_no_likeness_of_it(self):
        before = [make(0, 1), copied(1, 0), put(0, 0, 0)]
        self.assertEqual(ask_after(before, get(1, 0, 2), same(2, 0), same(2, 1)), [1, 1, 1])

    def test_copying_from_an_empty_root_empties(self):
        self.assertEqual(ask(make(0, 1), copied(0, 1), same(0, 1)), [0, 0, 1])
        self.assertEqual(ask(copied(0, 11)), [0])

    def test_onto_itself(self):
        self.assertEqual(ask(copied(3, 3), make(3, 1), copied(4, 3), copied(3, 3), same(3, 4)), [0, 0, 1, 1, 1])

    def test_later_changes_of_one_root_leave_the_other(self):
        before = [make(0, 1), copied(1, 0), copied(2, 0), drop(0)]
        self.assertEqual(ask_after(before, same(1, 2), same(0, 1), make(0, 1), same(0, 1), same(1, 2)), [1, 0, 0, 0, 1])

    def test_out_of_range(self):
        for r, t in ((12, 0), (0, 12), (12, 12), (BIGGEST, 0), (0, BIGGEST)):
            self.assertEqual(ask(make(0, 1), copied(1, 0), copied(r, t), same(0, 1), same(1, 2)), [0, 1, -1, 1, 0])


class Drop(unittest.TestCase):
    def test_root_is_empty(self):
        self.assertEqual(ask(make(0, 1), drop(0), same(0, 1), get(0, 0, 1)), [0, 0, 1, -3])

    def test_first_and_last_root(self):
        for r in (0, 11):
            self.assertEqual(ask(make(r, 0), same(r, 5), drop(r), same(r, 5)), [0, 0, 0, 1])

    def test_empty_root(self):
        self.assertEqual(ask(drop(7), drop(7), same(7, 8)), [0, 0, 1])

    def test_other_roots_stay(self):
        self.assertEqual(ask(make(0, 1), copied(1, 0), copied(2, 0), drop(0), same(1, 2), same(1, 0)),
                         [0, 1, 1, 0, 1, 0])

    def test_out_of_range(self):
        for r in (12, BIGGEST):
            self.assertEqual(ask(make(0, 1), make(11, 1), drop(r), same(0, 1), same(11, 1)), [0, 0, -1, 0, 0])


class Same(unittest.TestCase):
    def test_one_object_two_objects_and_none(self):
        before = [make(0, 0), copied(1, 0), make(2, 0)]
        self.assertEqual(ask_after(before, same(0, 1), same(1, 0), same(0, 2), same(2, 0)), [1, 1, 0, 0])
        self.assertEqual(ask_after(before, same(0, 0), same(11, 10), same(0, 11), same(11, 0)), [1, 1, 0, 0])

    def test_the_first_object_is_not_taken_for_none(self):
        self.assertEqual(ask(make(0, 0), same(0, 1), copied(1, 0), drop(0), same(0, 1)), [0, 0, 1, 0, 0])

    def test_nothing_is_changed(self):
        heap = heap_after(make(0, 1), make(1, 1))
        other = heap_after(make(0, 1), make(1, 1), same(0, 1), same(0, 2), same(2, 0), same(3, 2))
        self.assertEqual(vars(heap), vars(other))

    def test_out_of_range(self):
        for r, t in ((12, 0), (0, 12), (12, 12), (BIGGEST, 0), (0, BIGGEST), (BIGGEST, BIGGEST)):
            self.assertEqual(ask(same(r, t)), [-1])


if __name__ == "__main__":
    unittest.main()
