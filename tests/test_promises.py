"""Promises 2 and 4: who is named stays who it was, and what is refused changes nothing."""

import unittest

from keptheap.heap import answer_call
from lines import BIGGEST, alone, ask_after, bind, collect, copied, count, deref, drop, find, full_of_entries
from lines import full_of_objects, get, hand, heap_after, holds, make, mark, path, put, same, seen, told, weak


class KeptNames(unittest.TestCase):
    """Root 0 and others name one object; whatever else happens, they go on naming it."""

    def test_names_stay_through_all_calls(self):
        before = [make(0, 2), copied(1, 0), make(2, 1), put(2, 0, 0), weak(0, 0, 0), weak(1, 0, 1), put(0, 1, 0)]
        others = [make(3, 8), copied(4, 3), drop(3), make(5, 1), put(5, 0, 4), get(5, 0, 6), bind(0, 4, 5),
                  bind(4, 0, 0), bind(0, 0, 4), weak(2, 4, 1), weak(2, 9, 0), put(0, 0, 4), drop(4), make(4, 0)]
        probes = [same(0, 1), get(2, 0, 7), same(7, 0), deref(0, 8), same(8, 0), deref(1, 9), same(9, 0),
                  get(0, 1, 10), same(10, 0)]
        self.assertEqual(ask_after(before + others * 3, *probes), [1] * 9)
        later = [find(0, 4, 3), mark(3), mark(0), drop(3), collect(), hand(3), count(), told(0), holds(0, 3),
                 alone(0), path(0, 3), drop(3), collect(), make(3, 2)]
        self.assertEqual(ask_after(before + others + later * 3, *probes), [1] * 9)

    def test_new_objects_are_never_one_that_is_named(self):
        before = [make(0, 0), weak(0, 0, 0), drop(0)]
        probes = [make(1, 0), deref(0, 2), same(1, 2)] * 20
        self.assertEqual(ask_after(before, *probes), [0, 1, 0] * 20)

    def test_twelve_roots_name_one_object(self):
        before = [make(0, 1)] + [copied(r, r - 1) for r in range(1, 12)] + [put(11, 0, 5), drop(0)]
        self.assertEqual(ask_after(before, *[same(r, 1) for r in range(12)]), [0] + [1] * 11)
        self.assertEqual(ask_after(before, *[get(r, 0, r) for r in range(12)]), [-3] + [1] * 11)

    def test_a_waiting_object_stays_the_same(self):
        before = [make(0, 3), weak(0, 0, 1), mark(0), drop(0), collect()]
        again = [make(1, 0), drop(1), collect()] * 10
        self.assertEqual(ask_after(before + again, hand(2), told(2), deref(0, 3), same(2, 3)),
                         [1, [3, 0, 0, 0, 0], 1, 1])

    def test_calls_but_collect_take_no_object_away(self):
        before = [make(0, 1), make(1, 0), make(2, 0), bind(0, 1, 2), mark(2), drop(2), collect(), make(3, 0), drop(3)]
        calls = [copied(4, 0), drop(0), get(4, 0, 5), put(4, 0, 1), put(4, 0, 9), same(1, 4), weak(0, 4, 0),
                 weak(0, 9, 0), deref(0, 1), bind(4, 4, 9), find(4, 4, 6), mark(4), hand(4), drop(4), count(),
                 told(0), holds(0, 1), alone(0), path(0, 1), alone(4), make(12, 0)]
        for place in range(len(calls) + 1):
            self.assertEqual(ask_after(before + calls[:place], count())[0][1], 4)

    def test_48_objects_stay_until_a_collection(self):
        calls = [drop(0), mark(0), hand(0), find(0, 0, 0), told(0), holds(0, 0), alone(0), path(0, 0), count()]
        self.assertEqual(ask_after(full_of_objects() + calls, make(0, 0), collect(), make(0, 0)), [-2, 48, 0])


class Refused(unittest.TestCase):
    """What is refused is told by its number and leaves all as it was."""

    def refused(self, before, call, refusal):
        heap = heap_after(*before)
        old = seen(heap)
        self.assertEqual(answer_call(heap, call[0], call[1:]), [refusal], call)
        self.assertEqual(seen(heap), old, call)
        self.assertEqual(ask_after(before, call), [refusal], call)

    def test_every_refusal(self):
        some = [make(0, 2), make(1, 1), put(0, 0, 1), weak(0, 0, 1), bind(0, 1, 0), make(11, 0), make(2, 0), mark(2),
                drop(2), collect(), mark(1)]
        for wrong in (12, 13, 4096, 4294967284, BIGGEST):
            calls = [make(wrong, 0), copied(wrong, 0), copied(0, wrong), drop(wrong), get(wrong, 0, 1),
                     get(0, 0, wrong), put(wrong, 0, 1), put(0, 0, wrong), same(wrong, 0), same(0, wrong),
                     weak(wrong, 0, 0), weak(1, wrong, 0), weak(1, 0, wrong), deref(wrong, 1), deref(0, wrong),
                     bind(wrong, 0, 0), bind(0, wrong, 0), bind(0, 0, wrong), make(0, wrong),
                     find(wrong, 0, 0), find(0, wrong, 0), find(0, 1, wrong), mark(wrong), hand(wrong), told(wrong),
                     holds(wrong, 0), holds(0, wrong), alone(wrong), path(wrong, 0), path(0, wrong)]
            for call in calls:
                self.refused(some, call, -1)
            self.refused(some, get(0, wrong, 1), -5)
            self.refused(some, put(0, wrong, 1), -5)
        for call in (make(0, 9), weak(0, 1, 2)):
            self.refused(some, call, -1)
        for call in (get(5, 0, 1), put(5, 0, 1), bind(5, 0, 0), bind(0, 5, 0), find(5, 0, 1), find(0, 5, 1), mark(5),
                     told(5), holds(5, 0), holds(0, 5), path(5, 0), path(0, 5)):
            self.refused(some, call, -3)
        for call in (path(1, 0), path(0, 11), path(11, 0)):
            self.refused(some, call, -4)
        for call in (get(0, 2, 1), put(0, 2, 1), get(11, 0, 1), put(11, 0, 1)):
            self.refused(some, call, -5)
        self.refused(full_of_objects(), make(1, 0), -2)
        self.refused(full_of_entries(), bind(6, 6, 0), -2)

    def test_refusals_on_an_empty_line(self):
        for call in (get(0, 0, 0), put(0, 0, 0), bind(0, 0, 0), find(0, 0, 0), mark(0), told(0), holds(0, 0),
                     path(0, 0)):
            self.refused([], call, -3)

    def test_answers_go_on_as_if_it_had_not_been_asked(self):
        wrong = [make(12, 0), make(0, 9), get(0, 1, 0), put(0, 1, 1), weak(0, 1, 2), deref(12, 0), bind(0, 5, 1),
                 find(0, 5, 1), find(0, 1, 12), find(5, 1, 0), mark(5), mark(12), hand(12), told(5), holds(5, 0),
                 holds(0, 12), alone(12), path(1, 0), path(0, 5)]
        probes = [same(0, 1), get(0, 0, 2), same(1, 2), deref(0, 3), same(0, 3), get(0, 1, 4), count(), told(0),
                  told(1), find(0, 1, 5), same(5, 0), drop(0), drop(3), drop(5), collect(), count(), hand(6), told(6),
                  hand(6), count()]
        before = [make(0, 1), make(1, 0), put(0, 0, 1), weak(0, 0, 0), bind(0, 1, 0), make(2, 3), mark(2), drop(2),
                  collect(), mark(0)]
        wanted = ask_after(before, *probes)
        self.assertEqual(ask_after(before + wrong, *probes), wanted)
        for call in wrong:
            given = ask_after(before, call, *probes)
            self.assertLess(given[0], 0)
            self.assertEqual(given[1:], wanted)


if __name__ == "__main__":
    unittest.main()
