"""Call 13: collections."""

import unittest

from lines import ask, ask_after, bind, collect, copied, count, deref, drop, find, full_of_objects, get, hand
from lines import heap_after, holds, make, mark, put, same, seen, told, weak


def chain(r, length):
    """Root r names the head of a chain of objects; root 11 names its last one until it is dropped."""
    calls = [make(r, 1), copied(11, r)]
    for place in range(length - 1):
        calls = calls + [make(10, 1), put(11, 0, 10), copied(11, 10)]
    return calls + [drop(10), drop(11)]


def ring(r, length):
    calls = chain(r, length)
    return calls[:-2] + [put(11, 0, r)] + calls[-2:]


class Removed(unittest.TestCase):
    def test_nothing_is_there(self):
        self.assertEqual(ask(collect(), collect(), count()), [0, 0, [0, 0, 0, 0]])

    def test_what_no_root_names(self):
        self.assertEqual(ask(make(0, 0), drop(0), count(), collect(), count()), [0, 0, [0, 1, 0, 0], 1, [0, 0, 0, 0]])

    def test_what_a_root_names_stays(self):
        for r in range(12):
            self.assertEqual(ask(make(r, 3), collect(), told(r), count()), [0, 0, [3, 0, 0, 0, 0], [0, 1, 0, 0]])

    def test_one_of_two_names_goes(self):
        before = [make(0, 0), copied(1, 0), drop(0)]
        self.assertEqual(ask_after(before, collect(), told(1), drop(1), collect()), [0, [0, 0], 0, 1])

    def test_overwritten_roots(self):
        before = [make(0, 0)] * 5 + [make(1, 0), copied(1, 0)]
        self.assertEqual(ask_after(before, collect(), same(0, 1), count()), [5, 1, [0, 1, 0, 0]])

    def test_every_slot_keeps(self):
        before = [make(0, 8)]
        for k in range(8):
            before = before + [make(1, k), put(0, k, 1)]
        before = before + [drop(1)]
        probes = [collect()]
        for k in range(8):
            probes = probes + [get(0, k, 1), told(1)]
        wanted = [0]
        for k in range(8):
            wanted = wanted + [1, [k] + [0] * (k + 1)]
        self.assertEqual(ask_after(before, *probes), wanted)

    def test_emptied_slot_keeps_no_more(self):
        before = [make(0, 2), make(1, 0), put(0, 0, 1), put(0, 1, 1), drop(1)]
        self.assertEqual(ask_after(before, put(0, 0, 1), collect(), put(0, 1, 1), collect()), [0, 0, 0, 1])

    def test_48_objects_go_and_48_come(self):
        self.assertEqual(ask_after(full_of_objects(), drop(0), make(0, 0), collect(), make(0, 0), count()),
                         [0, -2, 48, 0, [0, 1, 0, 0]])
        before = full_of_objects() + [collect()]
        self.assertEqual(ask_after(before, count(), *[make(1, 0)] * 26), [[0, 1, 0, 0]] + [0] * 26)


class ChainsAndRings(unittest.TestCase):
    def test_chain(self):
        for length in (1, 2, 3, 20):
            before = chain(0, length)
            self.assertEqual(ask_after(before, collect(), count()), [0, [0, length, 0, 0]])
            self.assertEqual(ask_after(before, drop(0), collect(), count()), [0, length, [0, 0, 0, 0]])

    def test_chain_is_cut(self):
        before = chain(0, 10) + [get(0, 0, 1), get(1, 0, 1), get(1, 0, 1), put(1, 0, 9), drop(1)]
        self.assertEqual(ask_after(before, collect(), count()), [6, [0, 4, 0, 0]])

    def test_chain_from_its_middle(self):
        before = chain(0, 10) + [get(0, 0, 0)] * 4
        self.assertEqual(ask_after(before, collect(), count()), [4, [0, 6, 0, 0]])

    def test_chain_as_long_as_a_line_allows(self):
        # Each new head names the old one, by roots 0 and 1 in turn, which saves the calls for a copy.
        before = [make(0, 1)]
        for place in range(37):
            before = before + [make(1 - place % 2, 1), put(1 - place % 2, 0, place % 2)]
        self.assertEqual(ask_after(before, drop(0), collect(), count(), drop(1), collect()),
                         [0, 0, [0, 38, 0, 0], 0, 38])

    def test_ring(self):
        for length in (1, 2, 3, 20):
            before = ring(0, length)
            self.assertEqual(ask_after(before, collect(), count()), [0, [0, length, 0, 0]])
            self.assertEqual(ask_after(before, drop(0), collect(), count()), [0, length, [0, 0, 0, 0]])

    def test_ring_from_any_place(self):
        before = ring(0, 5) + [get(0, 0, 0)] * 3
        self.assertEqual(ask_after(before, collect(), drop(0), collect()), [0, 0, 5])

    def test_ring_that_names_what_is_kept(self):
        before = [make(0, 1), make(1, 2), make(2, 2), put(1, 0, 2), put(2, 0, 1), put(1, 1, 0), drop(1), drop(2)]
        self.assertEqual(ask_after(before, collect(), told(0), count()), [2, [1, 0, 0], [0, 1, 0, 0]])

    def test_slots_are_as_they_were(self):
        before = [make(0, 3), make(1, 0), put(0, 1, 1), put(0, 2, 0), make(5, 0), drop(5), collect()]
        probes = [told(0), get(0, 1, 2), same(2, 1), get(0, 2, 2), same(2, 0)]
        self.assertEqual(ask_after(before, *probes), [[3, 0, 1, 1, 0], 1, 1, 1, 1])


class Entries(unittest.TestCase):
    """Roots 0, 1, 2 name table, key and value of the one entry."""

    entry = [make(0, 1), make(1, 1), make(2, 1), bind(0, 1, 2)]

    def test_value_stays_with_table_and_key(self):
        before = self.entry + [copied(5, 2), weak(0, 2, 1), drop(2), drop(5)]
        self.assertEqual(ask_after(before, collect(), count(), find(0, 1, 3), deref(0, 4), same(3, 4)),
                         [0, [0, 3, 1, 0], 1, 1, 1])

    def test_value_goes_without_the_key(self):
        before = self.entry + [drop(2), drop(1)]
        self.assertEqual(ask_after(before, collect(), count()), [2, [0, 1, 0, 0]])

    def test_value_goes_without_the_table(self):
        before = self.entry + [drop(2), drop(0)]
        self.assertEqual(ask_after(before, collect(), count()), [2, [0, 1, 0, 0]])

    def test_entry_goes_though_the_value_stays(self):
        for r in (0, 1):
            before = self.entry + [drop(r)]
            self.assertEqual(ask_after(before, collect(), count(), told(2)), [1, [0, 2, 0, 0], [1, 0, 0]])

    def test_entry_keeps_neither_table_nor_key(self):
        before = self.entry + [drop(0), drop(1)]
        self.assertEqual(ask_after(before, collect(), count()), [2, [0, 1, 0, 0]])

    def test_value_that_names_its_own_key(self):
        before = self.entry + [put(2, 0, 1), drop(1), drop(2)]
        self.assertEqual(ask_after(before, collect(), count()), [2, [0, 1, 0, 0]])

    def test_value_that_names_its_own_table(self):
        before = self.entry + [put(2, 0, 0), drop(0), drop(2)]
        self.assertEqual(ask_after(before, collect(), count()), [2, [0, 1, 0, 0]])

    def test_value_that_is_its_own_key_or_table(self):
        self.assertEqual(ask(make(0, 0), make(1, 0), bind(0, 1, 1), drop(1), collect(), count()),
                         [0, 0, 0, 0, 1, [0, 1, 0, 0]])
        self.assertEqual(ask(make(0, 0), make(1, 0), bind(1, 0, 1), drop(1), collect(), count()),
                         [0, 0, 0, 0, 1, [0, 1, 0, 0]])
        self.assertEqual(ask(make(0, 0), bind(0, 0, 0), collect(), count(), drop(0), collect(), count()),
                         [0, 0, 0, [0, 1, 1, 0], 0, 1, [0, 0, 0, 0]])

    def test_table_that_is_its_own_key(self):
        before = [make(0, 0), make(1, 0), bind(0, 0, 1), drop(1)]
        self.assertEqual(ask_after(before, collect(), find(0, 0, 2), told(2)), [0, 1, [0, 0]])
        self.assertEqual(ask_after(before, drop(0), collect(), count()), [0, 2, [0, 0, 0, 0]])

    def test_key_that_only_a_slot_reaches(self):
        before = self.entry + [put(0, 0, 1), drop(1), drop(2)]
        self.assertEqual(ask_after(before, collect(), count(), put(0, 0, 9), collect(), count()),
                         [0, [0, 3, 1, 0], 0, 2, [0, 1, 0, 0]])

    def test_what_the_value_names_stays_too(self):
        before = self.entry + [make(3, 0), put(2, 0, 3), drop(3), drop(2)]
        self.assertEqual(ask_after(before, collect(), count(), drop(0), collect()), [0, [0, 4, 1, 0], 0, 3])

    def test_several_entries_with_one_value(self):
        before = self.entry + [make(3, 0), bind(0, 3, 2), drop(2), drop(1)]
        self.assertEqual(ask_after(before, collect(), count(), find(0, 3, 5), drop(5), drop(3), collect(), count()),
                         [1, [0, 3, 1, 0], 1, 0, 0, 2, [0, 1, 0, 0]])

    def test_bound_anew_the_old_value_goes(self):
        before = self.entry + [make(3, 0), bind(0, 1, 3), drop(2), drop(3)]
        self.assertEqual(ask_after(before, collect(), find(0, 1, 5), told(5)), [1, 1, [0, 0]])


class EntriesOneAfterAnother(unittest.TestCase):
    def linked(self, order):
        """Table 0 holds objects 1 to 4, each the key of the next one; root 1 alone names one of them."""
        calls = [make(r, 0) for r in range(6)]
        for place in order:
            calls = calls + [bind(0, place, place + 1)]
        return calls + [drop(r) for r in range(2, 6)]

    def test_each_value_is_the_next_key(self):
        for order in ((1, 2, 3, 4), (4, 3, 2, 1), (2, 4, 1, 3)):
            before = self.linked(order)
            self.assertEqual(ask_after(before, collect(), count()), [0, [0, 6, 4, 0]])
            self.assertEqual(ask_after(before, collect(), find(0, 1, 2), *[find(0, 2, 2)] * 4), [0, 1, 1, 1, 1, 0])
            self.assertEqual(ask_after(before, drop(1), collect(), count()), [0, 5, [0, 1, 0, 0]])
            self.assertEqual(ask_after(before, find(0, 1, 1), find(0, 1, 1), collect(), count()),
                             [1, 1, 2, [0, 4, 2, 0]])

    def test_each_value_is_the_next_table(self):
        for order in ((0, 1, 2, 3), (3, 2, 1, 0), (1, 3, 0, 2)):
            before = [make(r, 0) for r in range(6)] + [bind(place, 5, place + 1) for place in order]
            before = before + [drop(r) for r in range(1, 5)]
            self.assertEqual(ask_after(before, collect(), count(), drop(5), collect()), [0, [0, 6, 4, 0], 0, 5])

    def test_value_is_the_other_entrys_key_in_a_ring(self):
        before = [make(r, 0) for r in range(3)] + [bind(0, 1, 2), bind(0, 2, 1), drop(1), drop(2)]
        self.assertEqual(ask_after(before, collect(), count()), [2, [0, 1, 0, 0]])

    def test_table_and_key_come_by_two_other_entries(self):
        # Objects 2 and 3 are values of object 0's entries; together they are table and key for object 4.
        calls = [bind(2, 3, 4), bind(0, 1, 2), bind(0, 0, 3)]
        for row in (calls, calls[::-1], calls[1:] + calls[:1]):
            before = [make(r, 0) for r in range(5)] + row + [drop(2), drop(3), drop(4)]
            self.assertEqual(ask_after(before, collect(), count()), [0, [0, 5, 3, 0]])
            self.assertEqual(ask_after(before, bind(0, 0, 9), collect(), count()), [0, 2, [0, 3, 1, 0]])
            self.assertEqual(ask_after(before, drop(1), collect(), count()), [0, 3, [0, 2, 1, 0]])


class WeakNames(unittest.TestCase):
    def test_they_keep_nothing(self):
        for kind in (0, 1):
            before = [make(0, 0), weak(0, 0, kind), weak(11, 0, kind), drop(0)]
            self.assertEqual(ask_after(before, collect(), deref(0, 1), deref(11, 2), same(1, 3)), [1, 0, 0, 1])

    def test_they_stay_with_what_is_reached(self):
        for kind in (0, 1):
            before = [make(0, 1), make(1, 0), put(0, 0, 1), weak(0, 1, kind), weak(11, 0, kind), drop(1)]
            probes = [collect(), deref(11, 2), same(2, 0), deref(0, 3), get(0, 0, 4), same(3, 4)]
            self.assertEqual(ask_after(before, *probes), [0, 1, 1, 1, 1, 1])

    def test_long_ones_alone_stay_with_what_is_handed_back(self):
        before = [make(0, 0), weak(0, 0, 0), weak(1, 0, 1), mark(0), drop(0), collect()]
        self.assertEqual(ask_after(before, deref(0, 1), deref(1, 2), hand(3), same(2, 3)), [0, 1, 1, 1])

    def test_what_hangs_on_one_that_is_handed_back(self):
        before = [make(0, 1), make(1, 0), put(0, 0, 1), weak(0, 1, 0), weak(1, 1, 1), mark(0), drop(0), drop(1)]
        self.assertEqual(ask_after(before, collect(), deref(0, 1), deref(1, 2), hand(3), get(3, 0, 4), same(4, 2)),
                         [0, 0, 1, 1, 1, 1])

    def test_what_is_reached_though_it_hangs_on_such_a_one(self):
        before = [make(0, 1), make(1, 0), put(0, 0, 1), weak(0, 1, 0), mark(0), drop(0)]
        self.assertEqual(ask_after(before, collect(), deref(0, 2), same(1, 2)), [0, 1, 1])

    def test_short_ones_of_what_waits_already_stay(self):
        before = [make(0, 0), weak(1, 0, 1), mark(0), drop(0), collect(), deref(1, 0), weak(0, 0, 0), drop(0)]
        self.assertEqual(ask_after(before, collect(), deref(0, 1), hand(2), same(1, 2)), [0, 1, 1, 1])

    def test_long_ones_go_at_last(self):
        before = [make(0, 0), weak(1, 0, 1), mark(0), drop(0), collect(), hand(0), drop(0)]
        self.assertEqual(ask_after(before, deref(1, 2), drop(2), collect(), deref(1, 2)), [1, 0, 1, 0])

    def test_the_kind_is_the_last_one_told(self):
        before = [make(0, 0), weak(0, 0, 1), weak(0, 0, 0), weak(1, 0, 0), weak(1, 0, 1), mark(0), drop(0), collect()]
        self.assertEqual(ask_after(before, deref(0, 1), deref(1, 1)), [0, 1])

    def test_an_emptied_one_is_still_of_its_kind(self):
        heap = heap_after(make(0, 0), weak(3, 0, 1), drop(0), collect())
        self.assertEqual((heap.weak_names[3], heap.weak_kinds[3]), (None, 1))

    def test_derefed_ahead_of_the_collection_it_stays(self):
        before = [make(0, 0), weak(0, 0, 0), drop(0), deref(0, 5)]
        self.assertEqual(ask_after(before, collect(), deref(0, 1), same(1, 5)), [0, 1, 1])

    def test_of_a_ring_that_goes(self):
        before = ring(0, 4) + [weak(0, 0, 0), weak(1, 0, 1), drop(0)]
        self.assertEqual(ask_after(before, collect(), deref(0, 0), deref(1, 1)), [4, 0, 0])


class HandedBack(unittest.TestCase):
    def slots_in_order(self, before, how_many):
        """How many slots the objects have that are handed back, in their order."""
        given = ask_after(before, *[hand(11), told(11)] * how_many, hand(11))
        self.assertEqual(given[0::2], [1] * how_many + [0])
        return [row[0] for row in given[1::2]]

    def test_in_the_order_in_which_they_were_made(self):
        made = [make(0, 3), make(1, 1), make(2, 2), make(3, 0)]
        for order in ((0, 1, 2, 3), (3, 2, 1, 0), (2, 0, 3, 1)):
            before = made + [mark(r) for r in order] + [drop(r) for r in reversed(order)] + [collect()]
            self.assertEqual(self.slots_in_order(before, 4), [3, 1, 2, 0])

    def test_behind_those_that_wait_already(self):
        before = [make(0, 3), make(1, 1), make(2, 2), mark(0), mark(1), mark(2), drop(1), collect(), drop(2), drop(0)]
        self.assertEqual(self.slots_in_order(before + [collect()], 3), [1, 3, 2])

    def test_handed_in_between(self):
        before = [make(0, 3), make(1, 1), make(2, 2), mark(0), mark(1), mark(2), drop(1), drop(2), collect(), hand(5)]
        self.assertEqual(self.slots_in_order(before + [drop(0), collect()], 2), [2, 3])

    def test_made_after_a_collection(self):
        before = [make(0, 3), mark(0), make(1, 1), make(2, 0), drop(2), drop(1), collect(), make(1, 2), mark(1),
                  make(2, 4), mark(2), drop(2), drop(0), drop(1), collect()]
        self.assertEqual(self.slots_in_order(before, 3), [3, 2, 4])

    def test_nobody_is_removed_that_is_handed_back(self):
        before = ring(0, 3) + [mark(0), drop(0)]
        self.assertEqual(ask_after(before, collect(), count(), hand(1), holds(1, 1), count()),
                         [0, [0, 3, 0, 1], 1, 1, [0, 3, 0, 0]])

    def test_marked_objects_of_one_chain_are_all_handed_back(self):
        before = [make(0, 1), make(1, 2), put(0, 0, 1), mark(1), mark(0), drop(0), drop(1), collect()]
        self.assertEqual(self.slots_in_order(before, 2), [1, 2])

    def test_reached_by_one_that_waits_already_they_are_not(self):
        before = [make(0, 1), mark(0), make(1, 2), put(0, 0, 1), drop(0), collect(), mark(1), drop(1)]
        self.assertEqual(ask_after(before, collect(), count()), [0, [0, 2, 0, 1]])
        self.assertEqual(ask_after(before, hand(2), drop(2), collect(), count(), hand(1), told(1)),
                         [1, 0, 1, [0, 1, 0, 1], 1, [2, 0, 0, 0]])

    def test_they_are_marked_no_more(self):
        before = [make(0, 0), mark(0), drop(0), collect(), hand(0)]
        self.assertEqual(ask_after(before, told(0), drop(0), collect(), count()), [[0, 0], 0, 1, [0, 0, 0, 0]])

    def test_others_stay_marked(self):
        before = [make(0, 0), mark(0), make(1, 0), mark(1), drop(1), collect()]
        self.assertEqual(ask_after(before, told(0), drop(0), collect(), count()), [[0, 1], 0, 0, [0, 2, 0, 2]])

    def test_marked_anew(self):
        before = [make(0, 5), mark(0), drop(0)] + [collect(), hand(0), mark(0), drop(0)] * 5
        self.assertEqual(ask_after(before, collect(), hand(0), told(0)), [0, 1, [5] + [0] * 6])
        self.assertEqual(ask_after(before, collect(), hand(0), drop(0), collect()), [0, 1, 0, 1])

    def test_marked_anew_while_it_waits(self):
        before = [make(0, 2), weak(0, 0, 1), mark(0), drop(0), collect(), deref(0, 0), mark(0), drop(0)]
        self.assertEqual(ask_after(before, collect(), count(), hand(1), told(1), hand(2)),
                         [0, [0, 1, 0, 1], 1, [2, 0, 0, 1], 0])
        self.assertEqual(ask_after(before, collect(), hand(1), drop(1), collect(), hand(1), told(1)),
                         [0, 1, 0, 0, 1, [2, 0, 0, 0]])

    def test_they_wait_through_collections(self):
        before = [make(0, 3), mark(0), drop(0)] + [collect()] * 10
        self.assertEqual(self.slots_in_order(before, 1), [3])

    def test_entries_of_one_that_is_handed_back(self):
        # Table and key of the first entry are handed back; the second one's key goes.
        before = [make(0, 0), make(1, 0), make(2, 3), make(3, 0), bind(0, 1, 2), bind(0, 3, 2), mark(0), mark(1)]
        before = before + [drop(r) for r in range(4)]
        self.assertEqual(ask_after(before, collect(), count(), hand(0), hand(1), find(0, 1, 2), told(2)),
                         [1, [0, 3, 1, 2], 1, 1, 1, [3, 0, 0, 0, 0]])

    def test_entry_counts_again_by_one_that_is_handed_back(self):
        before = [make(0, 0), make(1, 0), make(2, 0), bind(0, 1, 2), weak(0, 2, 0), weak(1, 2, 1), mark(1)]
        before = before + [drop(1), drop(2), collect()]
        self.assertEqual(ask_after(before, count(), deref(0, 3), deref(1, 3), hand(1), find(0, 1, 2), same(2, 3)),
                         [[0, 3, 1, 1], 0, 1, 1, 1, 1])

    def test_marked_value_whose_key_goes(self):
        before = [make(0, 0), make(1, 0), make(2, 2), bind(0, 1, 2), mark(2), drop(1), drop(2)]
        self.assertEqual(ask_after(before, collect(), count(), hand(2), told(2)), [1, [0, 2, 0, 1], 1, [2, 0, 0, 0]])

    def test_marked_value_that_an_entry_keeps(self):
        before = [make(0, 0), make(1, 0), make(2, 2), bind(0, 1, 2), mark(2), drop(2)]
        self.assertEqual(ask_after(before, collect(), count(), hand(3)), [0, [0, 3, 1, 0], 0])


class AtOnceAgain(unittest.TestCase):
    def test_second_collection_changes_nothing(self):
        lines = [chain(0, 5) + [mark(0), drop(0)], ring(0, 5) + [mark(0), weak(0, 0, 0), weak(1, 0, 1), drop(0)],
                 Entries.entry + [mark(1), drop(1)], Entries.entry + [mark(0), mark(2), drop(0), drop(1), drop(2)],
                 full_of_objects() + [mark(0), drop(0)], [make(0, 0), drop(0)], []]
        for before in lines:
            heap, other = heap_after(*before, collect()), heap_after(*before, collect(), collect())
            self.assertEqual(seen(heap), seen(other))
            given = ask_after(before, collect(), count(), collect(), count())
            self.assertEqual((given[2], given[1]), (0, given[3]))


class NeverAnother(unittest.TestCase):
    """An object made after a collection is never taken for one that was removed."""

    def test_weak_names(self):
        for kind in (0, 1):
            before = [make(0, 2), weak(0, 0, kind), drop(0), collect(), make(0, 2), weak(1, 0, kind)]
            self.assertEqual(ask_after(before, deref(0, 1), same(1, 0), deref(1, 2), same(2, 0)), [0, 0, 1, 1])

    def test_marks(self):
        before = [make(0, 0), mark(0), drop(0), collect(), hand(0), drop(0), collect()]
        self.assertEqual(ask_after(before, make(0, 0), told(0), drop(0), collect(), hand(1)), [0, [0, 0], 0, 1, 0])

    def test_entries(self):
        before = [make(0, 0), make(1, 0), make(2, 0), bind(0, 1, 2), bind(1, 0, 2), drop(1), collect(), make(1, 0)]
        self.assertEqual(ask_after(before, find(0, 1, 3), find(1, 0, 3), count()), [0, 0, [0, 3, 0, 0]])

    def test_slots(self):
        before = [make(0, 2), make(1, 0), put(0, 0, 1), make(2, 0), drop(2), drop(1), collect(), make(2, 4)]
        self.assertEqual(ask_after(before, get(0, 0, 1), same(1, 2), get(0, 1, 3), told(1), told(2)),
                         [1, 0, 0, [0, 0], [4, 0, 0, 0, 0, 0]])

    def test_over_and_over(self):
        before = [make(0, 1), copied(1, 0), put(0, 0, 0), weak(0, 0, 0), weak(1, 0, 1)]
        again = [make(2, 0), same(2, 0), drop(2), collect()] * 15
        self.assertEqual(ask_after(before + again, same(0, 1), get(0, 0, 3), same(3, 0), deref(0, 4), same(4, 0),
                                   deref(1, 5), same(5, 0)), [1] * 7)
        self.assertEqual(ask_after(before, *again), [0, 0, 0, 1] * 15)


if __name__ == "__main__":
    unittest.main()
