"""Promises 2 and 4 over many lines, held against a plain model of objects."""

import random
import unittest

from keptheap.heap import answer_call
from keptheap.state import Heap
from lines import BIGGEST, ask, ask_after, bind, copied, deref, drop, full_of_entries, full_of_objects
from lines import get, heap_after, make, put, same, seen, weak
from model import Model


class KeptNames(unittest.TestCase):
    """Root 0 and others name one object; whatever else happens, they go on naming it."""

    def test_names_stay_through_all_calls(self):
        before = [make(0, 2), copied(1, 0), make(2, 1), put(2, 0, 0), weak(0, 0, 0), weak(1, 0, 1), put(0, 1, 0)]
        others = [make(3, 8), copied(4, 3), drop(3), make(5, 1), put(5, 0, 4), get(5, 0, 6), bind(0, 4, 5),
                  bind(4, 0, 0), bind(0, 0, 4), weak(2, 4, 1), weak(2, 9, 0), put(0, 0, 4), drop(4), make(4, 0)]
        probes = [same(0, 1), get(2, 0, 7), same(7, 0), deref(0, 8), same(8, 0), deref(1, 9), same(9, 0),
                  get(0, 1, 10), same(10, 0)]
        self.assertEqual(ask_after(before + others * 3, *probes), [1] * 9)

    def test_new_objects_are_never_one_that_is_named(self):
        before = [make(0, 0), weak(0, 0, 0), drop(0)]
        probes = [make(1, 0), deref(0, 2), same(1, 2)] * 20
        self.assertEqual(ask_after(before, *probes), [0, 1, 0] * 20)

    def test_twelve_roots_name_one_object(self):
        before = [make(0, 1)] + [copied(r, r - 1) for r in range(1, 12)] + [put(11, 0, 5), drop(0)]
        self.assertEqual(ask_after(before, *[same(r, 1) for r in range(12)]), [0] + [1] * 11)
        self.assertEqual(ask_after(before, *[get(r, 0, r) for r in range(12)]), [-3] + [1] * 11)


class Refused(unittest.TestCase):
    """What is refused is told by its number and leaves all as it was."""

    def refused(self, before, call, refusal):
        heap = heap_after(*before)
        old = seen(heap)
        self.assertEqual(answer_call(heap, call[0], call[1:]), [refusal], call)
        self.assertEqual(seen(heap), old, call)
        self.assertEqual(ask_after(before, call), [refusal], call)

    def test_every_refusal(self):
        some = [make(0, 2), make(1, 1), put(0, 0, 1), weak(0, 0, 1), bind(0, 1, 0), make(11, 0)]
        for wrong in (12, 13, 4096, 4294967284, BIGGEST):
            calls = [make(wrong, 0), copied(wrong, 0), copied(0, wrong), drop(wrong), get(wrong, 0, 1),
                     get(0, 0, wrong), put(wrong, 0, 1), put(0, 0, wrong), same(wrong, 0), same(0, wrong),
                     weak(wrong, 0, 0), weak(1, wrong, 0), weak(1, 0, wrong), deref(wrong, 1), deref(0, wrong),
                     bind(wrong, 0, 0), bind(0, wrong, 0), bind(0, 0, wrong), make(0, wrong)]
            for call in calls:
                self.refused(some, call, -1)
            self.refused(some, get(0, wrong, 1), -5)
            self.refused(some, put(0, wrong, 1), -5)
        for call in (make(0, 9), weak(0, 1, 2)):
            self.refused(some, call, -1)
        for call in (get(5, 0, 1), put(5, 0, 1), bind(5, 0, 0), bind(0, 5, 0)):
            self.refused(some, call, -3)
        for call in (get(0, 2, 1), put(0, 2, 1), get(11, 0, 1), put(11, 0, 1)):
            self.refused(some, call, -5)
        self.refused(full_of_objects(), make(1, 0), -2)
        self.refused(full_of_entries(), bind(6, 6, 0), -2)

    def test_refusals_on_an_empty_line(self):
        for call in (get(0, 0, 0), put(0, 0, 0), bind(0, 0, 0)):
            self.refused([], call, -3)

    def test_answers_go_on_as_if_it_had_not_been_asked(self):
        wrong = [make(12, 0), make(0, 9), get(0, 1, 0), put(0, 1, 1), weak(0, 1, 2), deref(12, 0), bind(0, 5, 1)]
        probes = [same(0, 1), get(0, 0, 2), same(1, 2), deref(0, 3), same(0, 3), get(0, 1, 4)]
        before = [make(0, 1), make(1, 0), put(0, 0, 1), weak(0, 0, 0)]
        self.assertEqual(ask_after(before + wrong * 3, *probes), ask_after(before, *probes))


class AgainstTheModel(unittest.TestCase):
    """Lines that are drawn from a fixed seed, answered by the heap and by the model."""

    sizes = {1: 2, 2: 2, 3: 1, 4: 3, 5: 3, 6: 2, 7: 3, 8: 2, 9: 3}

    def a_number(self, draw, few):
        if draw.random() < 0.02:
            return draw.choice((8, 9, 11, 12, 13, BIGGEST))
        return draw.randrange(few)

    def a_call(self, draw, numbers, few):
        number = draw.choice(numbers)
        handed = [self.a_number(draw, few) for place in range(self.sizes[number])]
        if number in (4, 5):
            handed[1] = self.a_number(draw, 4)
        if number == 7:
            handed[2] = self.a_number(draw, 2)
        return [number] + handed

    def a_line(self, draw):
        few = draw.choice((3, 8, 12))
        start = [make(r, draw.choice((0, 2, 4, 8))) for r in range(draw.choice((0, few, few)))]
        if draw.random() < 0.5:
            start = start + [put(draw.randrange(few), draw.randrange(4), draw.randrange(few)) for place in start]
        # Of some lines one call comes far more often than the others, so that the heap fills up.
        numbers = (1, 1, 2, 2, 3, 4, 5, 5, 5, 6, 6, 7, 7, 8, 9, 9) + (draw.randrange(1, 10),) * draw.choice((0, 5, 200))
        return start + [self.a_call(draw, numbers, few) for place in range(80 - len(start))]

    def check_line(self, line):
        heap, model = Heap(), Model()
        for call in line:
            old = seen(heap)
            answered = answer_call(heap, call[0], call[1:])
            self.assertEqual(answered, [model.answer(call)], line)
            if answered[0] < 0:
                self.assertEqual(seen(heap), old, line)
        self.assertEqual((heap.slots, heap.roots, heap.weak_names, heap.weak_kinds, heap.entries), model.told())

    def test_lines(self):
        draw = random.Random(20)
        for place in range(1500):
            line = self.a_line(draw)
            self.check_line(line)
            model = Model()
            self.assertEqual(ask(*line), [model.answer(call) for call in line])


if __name__ == "__main__":
    unittest.main()
