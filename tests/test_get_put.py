"""Calls 4 and 5: slots."""

import unittest

from lines import BIGGEST, ask, ask_after, copied, drop, get, make, put, same


class Put(unittest.TestCase):
    def test_slot_names_what_the_root_names(self):
        self.assertEqual(ask(make(0, 2), make(1, 0), put(0, 1, 1), get(0, 1, 2), same(1, 2), same(0, 2)),
                         [0, 0, 0, 1, 1, 0])

    def test_each_slot_by_itself(self):
        before = [make(0, 3), make(1, 0), make(2, 0), put(0, 0, 1), put(0, 2, 2)]
        self.assertEqual(ask_after(before, get(0, 0, 3), same(3, 1), get(0, 1, 3), get(0, 2, 3), same(3, 2)),
                         [1, 1, 0, 1, 1])

    def test_empty_root_empties_the_slot(self):
        self.assertEqual(ask(make(0, 1), put(0, 0, 0), put(0, 0, 5), get(0, 0, 1), same(1, 5)), [0, 0, 0, 0, 1])

    def test_put_anew(self):
        before = [make(0, 1), make(1, 0), make(2, 0), put(0, 0, 1), put(0, 0, 2)]
        self.assertEqual(ask_after(before, get(0, 0, 3), same(3, 2), same(3, 1)), [1, 1, 0])

    def test_slot_keeps_naming_when_the_root_goes(self):
        before = [make(0, 1), make(1, 0), copied(2, 1), put(0, 0, 1), drop(1), make(1, 0)]
        self.assertEqual(ask_after(before, get(0, 0, 3), same(3, 2), same(3, 1)), [1, 1, 0])

    def test_slot_that_names_its_own_object(self):
        before = [make(0, 1), put(0, 0, 0), copied(1, 0)]
        self.assertEqual(ask_after(before, get(0, 0, 0), get(0, 0, 0), same(0, 1)), [1, 1, 1])

    def test_first_and_last_root(self):
        self.assertEqual(ask(make(11, 1), make(0, 1), put(11, 0, 0), put(0, 0, 11), get(0, 0, 1), get(11, 0, 2),
                             same(1, 11), same(2, 0)), [0, 0, 0, 0, 1, 1, 1, 1])

    def test_last_slot_and_the_one_behind_it(self):
        for n in range(1, 9):
            probes = (put(0, n - 1, 0), put(0, n, 0), put(0, BIGGEST, 0), get(0, n - 1, 1), same(0, 1))
            self.assertEqual(ask_after([make(0, n)], *probes), [0, -5, -5, 1, 1])

    def test_slots_belong_to_the_object_not_to_the_root(self):
        before = [make(0, 1), copied(1, 0), make(0, 2), put(1, 0, 0)]
        self.assertEqual(ask_after(before, put(1, 1, 0), get(0, 0, 2), get(1, 0, 2), same(2, 0)), [-5, 0, 1, 1])

    def test_chain(self):
        before = [make(0, 1), copied(1, 0)]
        for place in range(10):
            before = before + [make(2, 1), put(1, 0, 2), copied(1, 2)]
        self.assertEqual(ask_after(before, *[get(0, 0, 0)] * 11), [1] * 10 + [0])


class Get(unittest.TestCase):
    def test_empty_slot_empties_the_root(self):
        self.assertEqual(ask(make(0, 1), make(1, 1), get(0, 0, 1), same(1, 2)), [0, 0, 0, 1])

    def test_into_the_same_root(self):
        before = [make(0, 1), make(1, 0), put(0, 0, 1)]
        self.assertEqual(ask_after(before, get(0, 0, 0), same(0, 1)), [1, 1])
        self.assertEqual(ask(make(0, 1), get(0, 0, 0), same(0, 1)), [0, 0, 1])

    def test_slot_stays_as_it_is(self):
        before = [make(0, 1), make(1, 0), put(0, 0, 1), get(0, 0, 2), drop(2)]
        self.assertEqual(ask_after(before, get(0, 0, 3), same(3, 1)), [1, 1])

    def test_last_slot_and_the_one_behind_it(self):
        for n in range(1, 9):
            before = [make(0, n), put(0, n - 1, 0), copied(1, 0)]
            self.assertEqual(ask_after(before, get(0, n, 1), get(0, BIGGEST, 1), same(0, 1), get(0, n - 1, 2)),
                             [-5, -5, 1, 1])

    def test_first_and_last_root(self):
        self.assertEqual(ask(make(11, 1), put(11, 0, 11), get(11, 0, 0), same(0, 11), get(0, 0, 11), same(0, 11)),
                         [0, 0, 1, 1, 1, 1])


class Refusals(unittest.TestCase):
    def both(self, before, r, k, t, refusal):
        self.assertEqual(ask_after(before, get(r, k, t)), [refusal])
        self.assertEqual(ask_after(before, put(r, k, t)), [refusal])

    def test_out_of_range(self):
        for r, t in ((12, 0), (0, 12), (12, 12), (BIGGEST, 0), (0, BIGGEST)):
            self.both([make(0, 1)], r, 0, t, -1)

    def test_out_of_range_is_first(self):
        self.both([make(0, 1)], 1, 0, 12, -1)
        self.both([make(0, 1)], 0, 1, 12, -1)
        self.both([], 0, BIGGEST, BIGGEST, -1)
        self.both([make(0, 1)], 12, 1, 1, -1)

    def test_empty_root(self):
        self.both([], 0, 0, 0, -3)
        self.both([make(0, 1)], 1, 0, 0, -3)
        self.both([make(0, 1), drop(0)], 0, 0, 0, -3)

    def test_empty_root_is_looked_for_ahead_of_the_slot(self):
        self.both([make(0, 1)], 11, BIGGEST, 0, -3)

    def test_a_big_slot_number_is_not_out_of_range(self):
        for k in (1, 8, 9, 12, BIGGEST):
            self.both([make(0, 1)], 0, k, 0, -5)

    def test_the_other_root_may_be_empty(self):
        self.assertEqual(ask(make(0, 1), put(0, 0, 1), get(0, 0, 1)), [0, 0, 0])
        self.both([make(0, 1)], 0, 1, 1, -5)


if __name__ == "__main__":
    unittest.main()
