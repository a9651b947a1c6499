"""The document written a second time, to hold the program against: objects are Python's own, told apart by what
they are, and each call is carried out in the plainest way, however long it takes."""

import copy


class Thing:
    def __init__(self, number, n):
        self.number = number
        self.slots = [None] * n
        self.marked = False


class No(Exception):
    def __init__(self, refusal):
        super().__init__(refusal)
        self.refusal = refusal


def need(condition, refusal):
    if not condition:
        raise No(refusal)


def has(things, thing):
    return any(other is thing for other in things)


class Model:
    def __init__(self):
        self.made = 0
        self.things = []
        self.roots = {}
        self.weak_names = {}
        self.kinds = {}
        self.entries = []
        self.row = []

    def answer(self, call):
        """The list of numbers that a call answers."""
        names = ("make", "copy", "drop", "get", "put", "same", "weak", "deref", "bind", "find", "mark", "hand",
                 "collect", "count", "told", "holds", "alone", "path")
        try:
            answered = getattr(self, names[call[0] - 1])(*call[1:])
        except No as no:
            answered = no.refusal
        return answered if isinstance(answered, list) else [answered]

    def name(self, r, thing):
        self.roots.pop(r, None)
        if thing is not None:
            self.roots[r] = thing
        return int(thing is not None)

    def object_of(self, r):
        need(r in self.roots, -3)
        return self.roots[r]

    def make(self, r, n):
        need(r <= 11 and n <= 8, -1)
        need(len(self.things) < 48, -2)
        self.things.append(Thing(self.made, n))
        self.made += 1
        self.roots[r] = self.things[-1]
        return 0

    def copy(self, r, t):
        need(max(r, t) <= 11, -1)
        return self.name(r, self.roots.get(t))

    def drop(self, r):
        need(r <= 11, -1)
        return self.name(r, None)

    def slots(self, r, k, t):
        need(max(r, t) <= 11, -1)
        slots = self.object_of(r).slots
        need(k < len(slots), -5)
        return slots

    def get(self, r, k, t):
        return self.name(t, self.slots(r, k, t)[k])

    def put(self, r, k, t):
        self.slots(r, k, t)[k] = self.roots.get(t)
        return 0

    def same(self, r, t):
        need(max(r, t) <= 11, -1)
        return int(self.roots.get(r) is self.roots.get(t))

    def weak(self, w, r, kind):
        need(max(w, r) <= 11 and kind <= 1, -1)
        self.weak_names[w] = self.roots.get(r)
        self.kinds[w] = kind
        return 0

    def deref(self, w, r):
        need(max(w, r) <= 11, -1)
        return self.name(r, self.weak_names.get(w))

    def bind(self, t, k, v):
        need(max(t, k, v) <= 11, -1)
        table, key, value = self.object_of(t), self.object_of(k), self.roots.get(v)
        others = [entry for entry in self.entries if not (entry[0] is table and entry[1] is key)]
        if value is not None:
            need(len(others) < 48, -2)
            others.append((table, key, value))
        self.entries = others
        return 0

    def find(self, t, k, r):
        need(max(t, k, r) <= 11, -1)
        table, key = self.object_of(t), self.object_of(k)
        found = [entry[2] for entry in self.entries if entry[0] is table and entry[1] is key]
        return self.name(r, found[0] if found else None)

    def mark(self, r):
        need(r <= 11, -1)
        self.object_of(r).marked = True
        return 0

    def hand(self, r):
        need(r <= 11, -1)
        first = self.row[0] if self.row else None
        self.row = self.row[1:]
        return self.name(r, first)

    def reach(self, starts):
        """The least set, found by putting in whatever is missing until nothing is."""
        found = []
        missing = list(starts)
        while missing:
            if not has(found, missing[0]):
                found.append(missing[0])
            named = [slot for thing in found for slot in thing.slots if slot is not None]
            valued = [entry[2] for entry in self.entries if has(found, entry[0]) and has(found, entry[1])]
            missing = [thing for thing in list(starts) + named + valued if not has(found, thing)]
        return found

    def collect(self):
        before = self.reach(list(self.roots.values()) + self.row)
        for thing in sorted(self.things, key=lambda thing: thing.number):
            if thing.marked and not has(before, thing):
                self.row.append(thing)
                thing.marked = False
        behind = self.reach(list(self.roots.values()) + self.row)
        for w in list(self.weak_names):
            if not has(behind if self.kinds[w] == 1 else before, self.weak_names[w]):
                self.weak_names[w] = None
        self.entries = [entry for entry in self.entries if has(behind, entry[0]) and has(behind, entry[1])]
        old = len(self.things)
        self.things = [thing for thing in self.things if has(behind, thing)]
        return old - len(self.things)

    def count(self):
        return [0, len(self.things), len(self.entries), len(self.row)]

    def told(self, r):
        need(r <= 11, -1)
        thing = self.object_of(r)
        return [len(thing.slots)] + [int(slot is not None) for slot in thing.slots] + [int(thing.marked)]

    def holds(self, r, t):
        need(max(r, t) <= 11, -1)
        first, second = self.object_of(r), self.object_of(t)
        return int(has(self.reach([first]), second))

    def alone(self, r):
        """Two collections, each carried out on a copy of all that there is."""
        need(r <= 11, -1)
        with_it, without_it = copy.deepcopy(self), copy.deepcopy(self)
        without_it.drop(r)
        return without_it.collect() - with_it.collect()

    def path(self, r, t):
        """From the goal backwards: how far each thing is from it; then the lowest slot that leads nearer."""
        need(max(r, t) <= 11, -1)
        first, goal = self.object_of(r), self.object_of(t)
        far = {goal.number: 0}
        for step in range(len(self.things)):
            for thing in self.things:
                if thing.number not in far and step in [far.get(slot.number) for slot in thing.slots if slot]:
                    far[thing.number] = step + 1
        need(first.number in far, -4)
        row = []
        while first is not goal:
            nearer = far[first.number] - 1
            row.append([far.get(slot.number) if slot else None for slot in first.slots].index(nearer))
            first = first.slots[row[-1]]
        return [len(row)] + row

    def all_there_is(self):
        """All that there is, with numbers in the place of things."""
        def number(thing):
            return None if thing is None else thing.number

        return {"made": self.made,
                "slots": {thing.number: [number(slot) for slot in thing.slots] for thing in self.things},
                "roots": [number(self.roots.get(r)) for r in range(12)],
                "weak_names": [number(self.weak_names.get(w)) for w in range(12)],
                "weak_kinds": [self.kinds.get(w, 0) for w in range(12)],
                "entries": {(number(t), number(k)): number(v) for t, k, v in self.entries},
                "marked": {thing.number: True for thing in self.things if thing.marked},
                "waiting": [thing.number for thing in self.row]}
