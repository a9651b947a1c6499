"""The calls that change nothing but tell what there is, one function each: it gives back the answer."""

from keptheap.collection import how_many_kept
from keptheap.reach import first_row, reached_from
from keptheap.refusals import NO_PATH, OUT_OF_RANGE, roots_refusal
from keptheap.state import ROOTS


def same_object(heap, r, t):
    """Tell whether both roots name one object, or both are empty."""
    if r >= ROOTS or t >= ROOTS:
        return OUT_OF_RANGE
    return 1 if heap.roots[r] == heap.roots[t] else 0


def count_all(heap):
    """A list: 0, how many objects there are, how many entries, how many objects wait."""
    return [0, len(heap.slots), len(heap.entries), len(heap.waiting)]


def tell_object(heap, r):
    """A list: how many slots root r's object has, 1 or 0 for each, and 1 or 0 for the mark."""
    refusal = roots_refusal(heap, [r], [])
    if refusal < 0:
        return [refusal]
    named = heap.roots[r]
    slots = heap.slots[named]
    filled = [0 if slot is None else 1 for slot in slots]
    return [len(slots)] + filled + [1 if named in heap.marked else 0]


def holds_object(heap, r, t):
    """Tell whether root t's object can be reached from root r's object alone."""
    refusal = roots_refusal(heap, [r, t], [])
    if refusal < 0:
        return refusal
    return 1 if heap.roots[t] in reached_from(heap, [heap.roots[r]]) else 0


def alone_by(heap, r):
    """How many objects more a collection would remove if root r were empty."""
    if r >= ROOTS:
        return OUT_OF_RANGE
    others = list(heap.roots)
    others[r] = None
    return how_many_kept(heap, heap.roots) - how_many_kept(heap, others)


def path_between(heap, r, t):
    """A list: how many slots lead from root r's object to root t's, and they."""
    refusal = roots_refusal(heap, [r, t], [])
    if refusal < 0:
        return [refusal]
    row = first_row(heap, heap.roots[r], heap.roots[t])
    if row is None:
        return [NO_PATH]
    return [len(row)] + row
