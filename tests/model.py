"""A plain model to hold the program against: objects are Python's own, told apart by what they are."""


class Thing:
    def __init__(self, n):
        self.slots = [None] * n


class No(Exception):
    def __init__(self, refusal):
        super().__init__(refusal)
        self.refusal = refusal


def need(condition, refusal):
    if not condition:
        raise No(refusal)


class Model:
    def __init__(self):
        self.things = []
        self.roots = {}
        self.weak_names = {}
        self.kinds = {}
        self.entries = []

    def answer(self, call):
        by_number = {1: self.make, 2: self.copy, 3: self.drop, 4: self.get, 5: self.put, 6: self.same,
                     7: self.weak, 8: self.deref, 9: self.bind}
        try:
            return by_number[call[0]](*call[1:])
        except No as no:
            return no.refusal

    def name(self, r, thing):
        self.roots.pop(r, None)
        if thing is not None:
            self.roots[r] = thing
        return int(thing is not None)

    def make(self, r, n):
        need(r <= 11 and n <= 8, -1)
        need(len(self.things) < 48, -2)
        self.things.append(Thing(n))
        self.roots[r] = self.things[-1]
        return 0

    def copy(self, r, t):
        need(max(r, t) <= 11, -1)
        return self.name(r, self.roots.get(t))

    def drop(self, r):
        need(r <= 11, -1)
        return self.name(r, None)

    def slots(self, r, k, t):
        need(max(r, t) <= 11, -1)
        need(r in self.roots, -3)
        need(k < len(self.roots[r].slots), -5)
        return self.roots[r].slots

    def get(self, r, k, t):
        return self.name(t, self.slots(r, k, t)[k])

    def put(self, r, k, t):
        self.slots(r, k, t)[k] = self.roots.get(t)
        return 0

    def same(self, r, t):
        need(max(r, t) <= 11, -1)
        return int(self.roots.get(r) is self.roots.get(t))

    def weak(self, w, r, kind):
        need(max(w, r) <= 11 and kind <= 1, -1)
        self.weak_names[w] = self.roots.get(r)
        self.kinds[w] = kind
        return 0

    def deref(self, w, r):
        need(max(w, r) <= 11, -1)
        return self.name(r, self.weak_names.get(w))

    def bind(self, t, k, v):
        need(max(t, k, v) <= 11, -1)
        need(t in self.roots and k in self.roots, -3)
        table, key, value = self.roots[t], self.roots[k], self.roots.get(v)
        others = [entry for entry in self.entries if not (entry[0] is table and entry[1] is key)]
        if value is not None:
            need(len(others) < 48, -2)
            others.append((table, key, value))
        self.entries = others
        return 0

    def number(self, thing):
        """A thing's place in the order of making."""
        return None if thing is None else [other is thing for other in self.things].index(True)

    def told(self):
        """All that there is, with numbers in the place of things."""
        slots = {place: [self.number(named) for named in thing.slots] for place, thing in enumerate(self.things)}
        roots = [self.number(self.roots.get(r)) for r in range(12)]
        weak_names = [self.number(self.weak_names.get(w)) for w in range(12)]
        kinds = [self.kinds.get(w, 0) for w in range(12)]
        entries = {(self.number(t), self.number(k)): self.number(v) for t, k, v in self.entries}
        return slots, roots, weak_names, kinds, entries
