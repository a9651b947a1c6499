"""Call 9: entries."""

import unittest

from lines import BIGGEST, ask, ask_after, bind, copied, drop, full_of_entries, heap_after, make, put

# The objects of these lines have the numbers 0, 1, 2 .. in the order in which they are made.
THREE = [make(0, 0), make(1, 0), make(2, 0)]


class Bind(unittest.TestCase):
    def entries(self, *calls):
        return heap_after(*THREE, *calls).entries

    def test_entry_has_the_value(self):
        self.assertEqual(ask_after(THREE, bind(0, 1, 2)), [0])
        self.assertEqual(self.entries(bind(0, 1, 2)), {(0, 1): 2})

    def test_table_and_key_are_told_apart(self):
        self.assertEqual(self.entries(bind(0, 1, 2), bind(1, 0, 0)), {(0, 1): 2, (1, 0): 0})

    def test_known_entry_gets_another_value(self):
        self.assertEqual(self.entries(bind(0, 1, 2), bind(0, 1, 1)), {(0, 1): 1})

    def test_empty_value_takes_the_entry_away(self):
        self.assertEqual(ask_after(THREE, bind(0, 1, 2), bind(0, 1, 5), bind(0, 1, 5)), [0, 0, 0])
        self.assertEqual(self.entries(bind(0, 1, 2), bind(0, 2, 2), bind(0, 1, 5)), {(0, 2): 2})

    def test_empty_value_where_there_is_no_entry(self):
        self.assertEqual(ask_after(THREE, bind(0, 1, 11)), [0])
        self.assertEqual(self.entries(bind(0, 1, 11)), {})

    def test_one_root_for_all_three(self):
        self.assertEqual(ask_after(THREE, bind(2, 2, 2)), [0])
        self.assertEqual(self.entries(bind(2, 2, 2)), {(2, 2): 2})

    def test_entry_is_of_the_objects_not_of_the_roots(self):
        calls = [bind(0, 1, 2), copied(3, 0), drop(0), copied(0, 1), drop(2), bind(3, 0, 1)]
        self.assertEqual(self.entries(*calls), {(0, 1): 1})

    def test_first_and_last_root(self):
        calls = [make(0, 0), make(11, 0), bind(0, 11, 11), bind(11, 0, 0)]
        self.assertEqual(ask(*calls), [0, 0, 0, 0])
        self.assertEqual(heap_after(*calls).entries, {(0, 1): 1, (1, 0): 0})

    def test_entries_do_not_touch_slots(self):
        calls = [make(0, 2), put(0, 1, 0)]
        self.assertEqual(heap_after(*calls, bind(0, 0, 0)).slots, heap_after(*calls).slots)


class Refusals(unittest.TestCase):
    def test_out_of_range(self):
        wrong = ((12, 0, 0), (0, 12, 0), (0, 0, 12), (12, 12, 12), (BIGGEST, 0, 0), (0, BIGGEST, 0), (0, 0, BIGGEST))
        for t, k, v in wrong:
            self.assertEqual(ask_after(THREE, bind(t, k, v)), [-1])
            self.assertEqual(heap_after(*THREE, bind(t, k, v)).entries, {})

    def test_out_of_range_is_first(self):
        for t, k, v in ((11, 0, 12), (0, 11, 12), (11, 12, 0), (12, 11, 0)):
            self.assertEqual(ask_after(THREE, bind(t, k, v)), [-1])

    def test_empty_table_or_key(self):
        for t, k, v in ((3, 0, 0), (0, 3, 0), (3, 3, 0), (3, 3, 3), (3, 0, 3), (0, 3, 3)):
            self.assertEqual(ask_after(THREE, bind(t, k, v)), [-3])
            self.assertEqual(heap_after(*THREE, bind(t, k, v)).entries, {})


class ManyEntries(unittest.TestCase):
    def test_48th_and_49th_entry(self):
        self.assertEqual(ask(*full_of_entries(), bind(6, 6, 0)), [0] * 55 + [-2])
        self.assertEqual(heap_after(*full_of_entries(), bind(6, 6, 0)).entries, heap_after(*full_of_entries()).entries)

    def test_known_entry_is_bound_anew(self):
        self.assertEqual(ask_after(full_of_entries(), bind(0, 0, 1), bind(6, 5, 2), bind(6, 6, 0)), [0, 0, -2])
        entries = heap_after(*full_of_entries(), bind(6, 5, 2)).entries
        self.assertEqual((len(entries), entries[(6, 5)]), (48, 2))

    def test_one_goes_and_one_more_comes(self):
        calls = [bind(3, 4, 11), bind(6, 6, 0), bind(3, 4, 0)]
        self.assertEqual(ask_after(full_of_entries(), *calls), [0, 0, -2])
        entries = heap_after(*full_of_entries(), *calls).entries
        self.assertEqual((len(entries), (6, 6) in entries, (3, 4) in entries), (48, True, False))

    def test_empty_value_is_no_new_entry(self):
        self.assertEqual(ask_after(full_of_entries(), bind(6, 6, 11), bind(6, 6, 0)), [0, -2])

    def test_bound_and_taken_away_over_and_over(self):
        again = [bind(0, 0, 11), bind(6, 6, 1), bind(6, 6, 11), bind(0, 0, 2)]
        self.assertEqual(ask_after(full_of_entries(), *again * 6), [0] * 24)

    def test_full_is_looked_for_last(self):
        self.assertEqual(ask_after(full_of_entries(), bind(6, 6, 12), bind(11, 6, 0), bind(6, 11, 0)), [-1, -3, -3])


if __name__ == "__main__":
    unittest.main()
