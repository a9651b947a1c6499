"""Calls 16, 17 and 18: who holds whom, what would go without a root, and by which slots."""

import unittest

from lines import BIGGEST, ask, ask_after, bind, collect, copied, count, drop, full_of_objects, get, hand, heap_after
from lines import alone, deref, holds, make, mark, path, put, same, seen, weak


def objects(how_many, slots):
    """Roots 0, 1, .. name that many objects."""
    return [make(r, slots) for r in range(how_many)]


class Holds(unittest.TestCase):
    def test_itself(self):
        self.assertEqual(ask(make(0, 0), copied(11, 0), holds(0, 0), holds(0, 11), holds(11, 0)), [0, 1, 1, 1, 1])

    def test_by_a_slot(self):
        for k in (0, 1, 7):
            before = [make(0, 8), make(1, 8), put(0, k, 1)]
            self.assertEqual(ask_after(before, holds(0, 1), holds(1, 0)), [1, 0])

    def test_by_several_slots(self):
        before = objects(5, 2) + [put(0, 1, 1), put(1, 0, 2), put(2, 1, 3)]
        self.assertEqual(ask_after(before, *[holds(0, t) for t in range(5)]), [1, 1, 1, 1, 0])
        self.assertEqual(ask_after(before, *[holds(r, 3) for r in range(5)]), [1, 1, 1, 1, 0])

    def test_ring(self):
        before = objects(3, 1) + [put(0, 0, 1), put(1, 0, 2), put(2, 0, 0)]
        self.assertEqual(ask_after(before, *[holds(r, t) for r in range(3) for t in range(3)]), [1] * 9)

    def test_roots_and_weak_names_do_not_hold(self):
        before = objects(2, 1) + [weak(0, 0, 1), weak(1, 1, 1)]
        self.assertEqual(ask_after(before, holds(0, 1), holds(1, 0)), [0, 0])

    def test_by_an_entry_where_table_and_key_are_reached(self):
        before = objects(3, 1) + [bind(0, 1, 2)]
        self.assertEqual(ask_after(before, holds(0, 2), holds(1, 2), put(0, 0, 1), holds(0, 2), holds(1, 2)),
                         [0, 0, 0, 1, 0])

    def test_by_an_entry_from_the_key(self):
        before = objects(3, 1) + [bind(0, 1, 2), put(1, 0, 0)]
        self.assertEqual(ask_after(before, holds(0, 2), holds(1, 2)), [0, 1])

    def test_by_an_entry_whose_table_is_its_key(self):
        self.assertEqual(ask_after(objects(2, 0) + [bind(0, 0, 1)], holds(0, 1), holds(1, 0)), [1, 0])

    def test_by_entries_one_after_another(self):
        for order in ((1, 2, 3), (3, 2, 1), (2, 3, 1)):
            before = objects(5, 1) + [bind(0, place, place + 1) for place in order] + [put(0, 0, 1)]
            self.assertEqual(ask_after(before, *[holds(0, t) for t in range(5)]), [1] * 5)
            self.assertEqual(ask_after(before, bind(0, 2, 9), holds(0, 2), holds(0, 3), holds(0, 4)), [0, 1, 0, 0])

    def test_an_entry_does_not_hold_table_or_key(self):
        before = objects(3, 1) + [bind(0, 1, 2)]
        self.assertEqual(ask_after(before, holds(2, 0), holds(2, 1), holds(0, 1), holds(1, 0)), [0] * 4)

    def test_what_waits_does_not_hold_for_another(self):
        before = objects(2, 1) + [put(0, 0, 1), mark(0), drop(0), collect(), make(0, 1)]
        self.assertEqual(ask_after(before, holds(0, 1), hand(2), holds(2, 1)), [0, 1, 1])

    def test_what_cannot_be_reached_from_the_roots_counts_too(self):
        before = objects(3, 1) + [put(0, 0, 1), put(1, 0, 2), drop(1)]
        self.assertEqual(ask_after(before, holds(0, 2)), [1])

    def test_refusals(self):
        for wrong in (12, 13, BIGGEST):
            for call in (holds(wrong, 0), holds(0, wrong), holds(wrong, wrong), holds(wrong, 5), holds(5, wrong)):
                self.assertEqual(ask_after(objects(2, 1), call), [-1])
        for call in (holds(5, 0), holds(0, 5), holds(5, 5), holds(5, 11)):
            self.assertEqual(ask_after(objects(2, 1), call), [-3])

    def test_nothing_is_changed(self):
        before = objects(3, 1) + [put(0, 0, 1), bind(0, 1, 2), mark(2)]
        self.assertEqual(seen(heap_after(*before)), seen(heap_after(*before, holds(0, 2), holds(2, 0), holds(5, 0))))


class Alone(unittest.TestCase):
    def as_carried_out(self, before, wanted):
        """What alone tells of each root is what a drop and a collection then remove, beyond one without the drop."""
        told = ask_after(before, *[alone(r) for r in range(12)])
        as_it_is = ask_after(before, collect())[0]
        for r in range(12):
            self.assertEqual(told[r], ask_after(before, drop(r), collect())[1] - as_it_is, (before, r))
        self.assertEqual(told, wanted + [0] * (12 - len(wanted)))

    def test_nothing_is_there(self):
        self.as_carried_out([], [])

    def test_one_object(self):
        self.as_carried_out(objects(1, 0), [1])

    def test_two_names_of_one_object(self):
        self.as_carried_out([make(0, 0), copied(1, 0)], [0, 0])

    def test_chain(self):
        self.as_carried_out(objects(3, 1) + [put(0, 0, 1), put(1, 0, 2), drop(1), drop(2)], [3])
        self.as_carried_out(objects(3, 1) + [put(0, 0, 1), put(1, 0, 2), drop(1)], [2, 0, 0])
        self.as_carried_out(objects(3, 1) + [put(0, 0, 1), put(1, 0, 2)], [1, 0, 0])

    def test_ring(self):
        self.as_carried_out(objects(2, 1) + [put(0, 0, 1), put(1, 0, 0)], [0, 0])
        self.as_carried_out(objects(2, 1) + [put(0, 0, 1), put(1, 0, 0), drop(0)], [0, 2])

    def test_what_two_hold_together(self):
        self.as_carried_out(objects(3, 1) + [put(0, 0, 2), put(1, 0, 2), drop(2)], [1, 1])

    def test_what_goes_anyway_is_not_told(self):
        self.as_carried_out([make(0, 0)] * 4 + [make(1, 0)], [1, 1])
        self.as_carried_out(full_of_objects(), [1])

    def test_what_goes_anyway_names_what_is_kept(self):
        self.as_carried_out(objects(2, 1) + [put(1, 0, 0), drop(1)], [1])

    def test_entries(self):
        self.as_carried_out(objects(3, 0) + [bind(0, 1, 2), drop(2)], [2, 2])
        self.as_carried_out(objects(3, 0) + [bind(0, 1, 2)], [1, 1, 0])
        self.as_carried_out(objects(5, 0) + [bind(0, 1, 2), bind(0, 2, 3), bind(4, 2, 3), drop(2), drop(3)],
                            [3, 3, 0, 0, 1])

    def test_weak_names(self):
        self.as_carried_out(objects(2, 0) + [weak(0, 0, 0), weak(1, 1, 1)], [1, 1])

    def test_marked_object_is_handed_back_first(self):
        self.as_carried_out(objects(1, 0) + [mark(0)], [0])

    def test_marked_object_keeps_what_hangs_on_it(self):
        before = objects(3, 1) + [put(0, 0, 1), put(1, 0, 2)]
        self.as_carried_out(before + [drop(1), drop(2), mark(0)], [0])
        self.as_carried_out(before + [mark(1), drop(1), drop(2)], [1])
        self.as_carried_out(before + [mark(2), drop(1), drop(2)], [2])

    def test_marked_objects_in_a_ring(self):
        self.as_carried_out(objects(2, 1) + [put(0, 0, 1), put(1, 0, 0), mark(1), drop(1)], [0])

    def test_marked_objects_with_entries(self):
        before = objects(3, 0) + [bind(0, 1, 2), drop(2)]
        self.as_carried_out(before + [mark(0)], [0, 2])
        self.as_carried_out(before + [mark(1)], [2, 0])
        self.as_carried_out(before + [mark(0), mark(1)], [0, 0])
        self.as_carried_out(objects(3, 0) + [bind(0, 1, 2), mark(2), drop(2)], [1, 1])

    def test_what_waits_is_kept_without_the_root(self):
        before = objects(2, 1) + [put(0, 0, 1), mark(0), drop(0), collect()]
        self.as_carried_out(before, [0, 0])
        self.as_carried_out(before + [hand(0)], [1, 0])
        self.as_carried_out(before + [hand(0), drop(1)], [2])

    def test_marked_object_that_is_handed_back_anyway(self):
        before = objects(3, 1) + [put(0, 0, 2), mark(0), drop(0), drop(2)]
        self.as_carried_out(before, [0, 1])
        self.as_carried_out(before[:-1], [0, 1, 0])

    def test_empty_root(self):
        self.assertEqual(ask(alone(0), make(0, 0), make(0, 0), alone(11), drop(0), alone(0)), [0, 0, 0, 0, 0, 0])

    def test_nothing_is_changed(self):
        before = objects(3, 1) + [put(0, 0, 1), mark(0), mark(1), bind(0, 1, 2), weak(0, 0, 0), weak(1, 2, 1), drop(2)]
        probes = [alone(0), alone(1), alone(2), alone(11), alone(12)]
        self.assertEqual(seen(heap_after(*before)), seen(heap_after(*before, *probes)))
        behind = [count(), same(0, 1), deref(0, 5), same(0, 5), collect(), hand(6), count()]
        self.assertEqual(ask_after(before, *behind), ask_after(before + probes, *behind))

    def test_refusals(self):
        for r in (12, 13, BIGGEST):
            self.assertEqual(ask(alone(r), make(0, 0), alone(r)), [-1, 0, -1])


class Path(unittest.TestCase):
    def test_to_itself(self):
        self.assertEqual(ask(make(0, 1), copied(1, 0), put(0, 0, 0), path(0, 0), path(0, 1)), [0, 1, 0, [0], [0]])
        self.assertEqual(ask(make(11, 0), path(11, 11)), [0, [0]])

    def test_one_slot(self):
        for k in range(8):
            before = [make(0, 8), make(1, 0), put(0, k, 1)]
            self.assertEqual(ask_after(before, path(0, 1), path(1, 0)), [[1, k], -4])

    def test_first_of_several_slots(self):
        before = [make(0, 8), make(1, 0), put(0, 6, 1), put(0, 3, 1), put(0, 4, 1)]
        self.assertEqual(ask_after(before, path(0, 1)), [[1, 3]])

    def test_several_slots_one_behind_another(self):
        before = objects(4, 4) + [put(0, 3, 1), put(1, 0, 2), put(2, 2, 3)]
        self.assertEqual(ask_after(before, path(0, 3), path(1, 3), path(0, 2), path(3, 0)),
                         [[3, 3, 0, 2], [2, 0, 2], [2, 3, 0], -4])

    def test_row_leads_there(self):
        before = objects(4, 4) + [put(0, 3, 1), put(1, 0, 2), put(2, 2, 3)]
        self.assertEqual(ask_after(before, get(0, 3, 9), get(9, 0, 9), get(9, 2, 9), same(9, 3)), [1, 1, 1, 1])

    def test_shortest_though_another_begins_lower(self):
        before = objects(3, 3) + [put(0, 0, 1), put(1, 0, 2), put(0, 2, 2)]
        self.assertEqual(ask_after(before, path(0, 2), put(0, 2, 9), path(0, 2)), [[1, 2], 0, [2, 0, 0]])

    def test_first_of_several_shortest_by_the_first_slot(self):
        # Both rows have two slots; the one that begins lower goes on higher.
        before = objects(4, 8) + [put(0, 1, 1), put(0, 2, 2), put(1, 7, 3), put(2, 0, 3)]
        self.assertEqual(ask_after(before, path(0, 3)), [[2, 1, 7]])
        before = objects(4, 8) + [put(0, 2, 1), put(0, 1, 2), put(1, 0, 3), put(2, 7, 3)]
        self.assertEqual(ask_after(before, path(0, 3)), [[2, 1, 7]])

    def test_first_of_several_shortest_by_a_later_slot(self):
        before = objects(5, 4) + [put(0, 2, 1), put(1, 3, 2), put(1, 1, 3), put(2, 0, 4), put(3, 3, 4)]
        self.assertEqual(ask_after(before, path(0, 4)), [[3, 2, 1, 3]])

    def test_first_of_several_shortest_whose_ways_cross(self):
        # Object 3 is named by 1 and 2; 4 by 3 and by 2, further on.
        before = objects(6, 4) + [put(0, 3, 1), put(0, 1, 2), put(1, 0, 3), put(2, 2, 3), put(3, 1, 5), put(2, 3, 4),
                                  put(4, 0, 5)]
        self.assertEqual(ask_after(before, path(0, 3), path(0, 5)), [[2, 1, 2], [3, 1, 2, 1]])

    def test_made_later_does_not_matter(self):
        before = [make(3, 4), make(2, 4), make(1, 4), make(0, 4)]
        before = before + [put(0, 1, 1), put(0, 0, 2), put(1, 0, 3), put(2, 3, 3)]
        self.assertEqual(ask_after(before, path(0, 3)), [[2, 0, 3]])

    def test_ring(self):
        before = objects(4, 2) + [put(0, 1, 1), put(1, 1, 2), put(2, 1, 3), put(3, 1, 0)]
        self.assertEqual(ask_after(before, path(0, 3), path(3, 2), path(2, 1), path(1, 1)),
                         [[3, 1, 1, 1], [3, 1, 1, 1], [3, 1, 1, 1], [0]])

    def test_through_what_no_root_names(self):
        before = objects(3, 2) + [put(0, 1, 1), put(1, 0, 2), drop(1)]
        self.assertEqual(ask_after(before, path(0, 2)), [[2, 1, 0]])

    def test_an_entry_leads_nowhere(self):
        before = objects(3, 2) + [bind(0, 0, 2), bind(0, 1, 2), put(0, 1, 1)]
        self.assertEqual(ask_after(before, holds(0, 2), path(0, 2), path(1, 2), path(0, 1)), [1, -4, -4, [1, 1]])

    def test_slots_behind_an_entry(self):
        before = objects(3, 2) + [bind(0, 0, 1), put(1, 0, 2)]
        self.assertEqual(ask_after(before, holds(0, 2), path(0, 2), path(1, 2)), [1, -4, [1, 0]])

    def test_entry_is_not_a_shorter_way(self):
        before = objects(3, 2) + [bind(0, 0, 2), put(0, 1, 1), put(1, 1, 2)]
        self.assertEqual(ask_after(before, path(0, 2)), [[2, 1, 1]])

    def test_weak_names_lead_nowhere(self):
        self.assertEqual(ask_after(objects(2, 1) + [weak(0, 1, 1), weak(1, 0, 0)], path(0, 1), path(1, 0)), [-4, -4])

    def test_emptied_slot(self):
        before = objects(2, 2) + [put(0, 0, 1), put(0, 1, 1), put(0, 0, 9)]
        self.assertEqual(ask_after(before, path(0, 1), put(0, 1, 9), path(0, 1)), [[1, 1], 0, -4])

    def test_after_a_collection(self):
        before = objects(4, 2) + [put(0, 1, 1), put(1, 0, 2), drop(1), drop(3), collect()]
        self.assertEqual(ask_after(before, path(0, 2)), [[2, 1, 0]])

    def test_long_row(self):
        before = [make(0, 1), copied(2, 0)]
        for place in range(30):
            before = before + [make(1 - place % 2, 1), put(1 - place % 2, 0, place % 2)]
        self.assertEqual(ask_after(before, path(0, 2), path(2, 0)), [[30] + [0] * 30, -4])

    def test_many_rows_of_the_same_length(self):
        # Every slot of an object names the next one: very many rows, and the first of them has zeros alone.
        before = objects(7, 8)
        for r in range(6):
            before = before + [put(r, k, r + 1) for k in range(8)]
        self.assertEqual(ask_after(before, path(0, 6), put(3, 0, 9), path(0, 6)),
                         [[6] + [0] * 6, 0, [6, 0, 0, 0, 1, 0, 0]])

    def test_refusals(self):
        for wrong in (12, 13, BIGGEST):
            for call in (path(wrong, 0), path(0, wrong), path(wrong, wrong), path(wrong, 5), path(5, wrong)):
                self.assertEqual(ask_after(objects(2, 1), call), [-1])
        for call in (path(5, 0), path(0, 5), path(5, 5), path(5, 11)):
            self.assertEqual(ask_after(objects(2, 1), call), [-3])
        self.assertEqual(ask_after(objects(2, 1), path(0, 1), path(1, 0)), [-4, -4])

    def test_nothing_is_changed(self):
        before = objects(3, 1) + [put(0, 0, 1), put(1, 0, 2), mark(2)]
        self.assertEqual(seen(heap_after(*before)), seen(heap_after(*before, path(0, 2), path(2, 0), path(5, 0))))


if __name__ == "__main__":
    unittest.main()
