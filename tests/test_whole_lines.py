"""Whole lines of all kinds of calls, drawn from a fixed seed, held against the document's second writing."""

import random
import unittest

from keptheap.heap import answer_call, answers
from keptheap.state import Heap
from lines import BIGGEST, alone, collect, drop, flat, make, seen, split
from model import Model

SIZES = {1: 2, 2: 2, 3: 1, 4: 3, 5: 3, 6: 2, 7: 3, 8: 2, 9: 3,
         10: 3, 11: 1, 12: 1, 13: 0, 14: 0, 15: 1, 16: 2, 17: 1, 18: 2}
# How often each call is drawn: those that build and those that let go come more often than those that ask.
OFTEN = {1: 12, 2: 3, 3: 5, 4: 4, 5: 18, 6: 2, 7: 5, 8: 4, 9: 9, 10: 4, 11: 8, 12: 4, 13: 5, 14: 2, 15: 4, 16: 5,
         17: 5, 18: 12}
# The places of a call's numbers where an empty root is refused or makes little happen.
NAMING = {2: (1,), 3: (0,), 4: (0,), 5: (0, 2), 7: (1,), 9: (0, 1, 2), 10: (0, 1), 11: (0,), 15: (0,), 16: (0, 1),
          17: (0,), 18: (0, 1)}


class Drawn:
    """A line that is drawn call by call, with an eye on what its calls have done so far."""

    def __init__(self, draw):
        self.draw = draw
        self.few = draw.choice((3, 5, 8, 12))
        self.model = Model()
        self.line = []

    def a_number(self, few):
        if self.draw.random() < 0.02:
            return self.draw.choice((8, 9, 11, 12, 13, BIGGEST))
        return self.draw.randrange(few)

    def a_root(self, naming):
        if naming and self.model.roots and self.draw.random() < 0.85:
            return self.draw.choice(sorted(self.model.roots))
        return self.a_number(self.few)

    def a_slot(self, r):
        how_many = len(self.model.roots[r].slots) if r in self.model.roots else 0
        return self.a_number(how_many if how_many and self.draw.random() < 0.85 else 3)

    def add(self, number):
        handed = [self.a_root(place in NAMING.get(number, ())) for place in range(SIZES[number])]
        if number == 1:
            handed[1] = self.draw.choice((0, 1, 2, 2, 3, 8, self.a_number(9)))
        if number in (4, 5):
            handed[1] = self.a_slot(handed[0])
        if number == 7:
            handed[2] = self.a_number(2)
        self.put_behind([number] + handed)

    def put_behind(self, call):
        self.line.append(call)
        self.model.answer(call)

    def begin(self):
        """Most lines begin with objects, some with many slots filled or entries bound: there is more to be reached."""
        for r in range(self.draw.choice((0, self.few, self.few, self.few))):
            self.put_behind(make(r, self.draw.choice((0, 1, 2, 3, 4))))
        for number in (5, 9):
            for place in range(self.draw.choice((0, self.few, 2 * self.few))):
                self.add(number)

    def go_on(self, length):
        """In some lines one kind of call comes far more often, so that the heap fills up."""
        numbers = [number for number in OFTEN for place in range(OFTEN[number])]
        favoured = self.draw.choice((1, 9, self.draw.randrange(1, 19)))
        numbers = numbers + [favoured] * self.draw.choice((0, 0, 0, 20, 2000))
        while len(self.line) < length:
            self.add(self.draw.choice(numbers))


def a_line(draw, most=80):
    drawn = Drawn(draw)
    drawn.begin()
    drawn.go_on(draw.choice((most, most, most, draw.randrange(1, most + 1))))
    return drawn.line[:most]


class AgainstTheModel(unittest.TestCase):
    def check_line(self, line, seen_kinds):
        heap, model = Heap(), Model()
        wanted = []
        for call in line:
            old = seen(heap)
            waiting = len(heap.waiting)
            answered = answer_call(heap, call[0], call[1:])
            wanted.append(model.answer(call))
            self.assertEqual(answered, wanted[-1], line)
            self.assertEqual(vars(heap), model.all_there_is(), line)
            if answered[0] < 0 or call[0] in (6, 14, 15, 16, 17, 18):
                self.assertEqual(vars(heap), old, line)
            if call[0] != 13:
                self.assertLessEqual(len(old["slots"]), len(heap.slots), line)
            self.note(call, answered, len(heap.waiting) > waiting, seen_kinds)
        self.check_in_whole(line, wanted)

    def check_in_whole(self, line, wanted):
        calls = flat(line)
        given = answers(calls)
        self.assertEqual(calls, flat(line))
        self.assertEqual(split(given, len(line)), wanted)
        self.assertEqual(answers(calls), given)

    def note(self, call, answered, handed_back, seen_kinds):
        """Keep count of what was seen, so that a draw that no longer reaches something is found out."""
        key = (call[0], answered[0] if call[0] not in (13, 15, 17) or answered[0] < 0 else min(answered[0], 2))
        seen_kinds[key] = seen_kinds.get(key, 0) + 1
        if handed_back:
            seen_kinds["handed back"] = seen_kinds.get("handed back", 0) + 1

    def test_lines(self):
        draw = random.Random(46)
        seen_kinds = {}
        for place in range(1500):
            self.check_line(a_line(draw), seen_kinds)
        refusals = {1: (-1, -2), 2: (-1,), 3: (-1,), 4: (-1, -3, -5), 5: (-1, -3, -5), 6: (-1,), 7: (-1,), 8: (-1,),
                    9: (-1, -2, -3), 10: (-1, -3), 11: (-1, -3), 12: (-1,), 15: (-1, -3), 16: (-1, -3), 17: (-1,),
                    18: (-1, -3, -4)}
        others = {1: (0,), 2: (0, 1), 3: (0,), 4: (0, 1), 5: (0,), 6: (0, 1), 7: (0,), 8: (0, 1), 9: (0,),
                  10: (0, 1), 11: (0,), 12: (0, 1), 13: (0, 1, 2), 14: (0,), 15: (0, 1, 2), 16: (0, 1),
                  17: (0, 1, 2), 18: (0, 1, 2, 3)}
        for kinds in (refusals, others):
            for number in kinds:
                for first in kinds[number]:
                    self.assertGreater(seen_kinds.get((number, first), 0), 3, (number, first))
        self.assertGreater(seen_kinds["handed back"], 300)

    def test_second_collection_at_once(self):
        draw = random.Random(47)
        for place in range(300):
            heap = Heap()
            for call in a_line(draw, 78) + [collect()]:
                answer_call(heap, call[0], call[1:])
            old = seen(heap)
            self.assertEqual(answer_call(heap, 13, []), [0])
            self.assertEqual(vars(heap), old)

    def test_alone_against_a_collection(self):
        draw = random.Random(48)
        for place in range(150):
            line = a_line(draw, 78)
            as_it_is = answers(flat(line + [collect()]))[-1]
            for r in range(12):
                without = answers(flat(line + [drop(r), collect()]))[-1]
                self.assertEqual(answers(flat(line + [alone(r)]))[-1], without - as_it_is, (line, r))


if __name__ == "__main__":
    unittest.main()
