"""The calls that change what is named, one function each: it gives back the number that is answered."""

from keptheap.refusals import FULL, NO_SUCH_SLOT, OUT_OF_RANGE, roots_refusal
from keptheap.state import KINDS, MOST_ENTRIES, MOST_OBJECTS, MOST_SLOTS, ROOTS, WEAK_NAMES


def point_root(heap, r, named):
    """Root r names that object, or is empty; gives back 1, or 0 if it is empty."""
    heap.roots[r] = named
    return 0 if named is None else 1


def make_object(heap, r, n):
    """Root r names a new object with n empty slots."""
    if r >= ROOTS or n > MOST_SLOTS:
        return OUT_OF_RANGE
    if len(heap.slots) >= MOST_OBJECTS:
        return FULL
    heap.roots[r] = heap.add_object(n)
    return 0


def copy_root(heap, r, t):
    """Root r names what root t names."""
    if r >= ROOTS or t >= ROOTS:
        return OUT_OF_RANGE
    return point_root(heap, r, heap.roots[t])


def drop_root(heap, r):
    """Root r is empty; its object stays, for a collection alone takes objects away."""
    if r >= ROOTS:
        return OUT_OF_RANGE
    heap.roots[r] = None
    return 0


def slot_refusal(heap, r, k, t):
    """Why slot k of root r's object and root t can't be used, or 0 if they can."""
    refusal = roots_refusal(heap, [r], [t])
    if refusal < 0:
        return refusal
    if k >= len(heap.slots[heap.roots[r]]):
        return NO_SUCH_SLOT
    return 0


def get_slot(heap, r, k, t):
    """Root t names what slot k of root r's object names."""
    refusal = slot_refusal(heap, r, k, t)
    if refusal < 0:
        return refusal
    return point_root(heap, t, heap.slots[heap.roots[r]][k])


def put_slot(heap, r, k, t):
    """Slot k of root r's object names what root t names."""
    refusal = slot_refusal(heap, r, k, t)
    if refusal < 0:
        return refusal
    heap.slots[heap.roots[r]][k] = heap.roots[t]
    return 0


def set_weak(heap, w, r, kind):
    """Weak name w names what root r names, and is of that kind."""
    if w >= WEAK_NAMES or r >= ROOTS or kind >= KINDS:
        return OUT_OF_RANGE
    heap.weak_names[w] = heap.roots[r]
    heap.weak_kinds[w] = kind
    return 0


def deref_weak(heap, w, r):
    """Root r names what weak name w names."""
    if w >= WEAK_NAMES or r >= ROOTS:
        return OUT_OF_RANGE
    return point_root(heap, r, heap.weak_names[w])


def bind_entry(heap, t, k, v):
    """The entry in root t's object for root k's object has root v's object; if v is empty, there is none."""
    refusal = roots_refusal(heap, [t, k], [v])
    if refusal < 0:
        return refusal
    entry = (heap.roots[t], heap.roots[k])
    # An empty value adds no entry, so it is never refused for there being too many.
    if heap.roots[v] is None:
        heap.entries.pop(entry, None)
        return 0
    if entry not in heap.entries and len(heap.entries) >= MOST_ENTRIES:
        return FULL
    heap.entries[entry] = heap.roots[v]
    return 0


def find_entry(heap, t, k, r):
    """Root r names the value of the entry in root t's object for root k's object."""
    refusal = roots_refusal(heap, [t, k], [r])
    if refusal < 0:
        return refusal
    return point_root(heap, r, heap.entries.get((heap.roots[t], heap.roots[k])))


def mark_object(heap, r):
    """Root r's object is marked."""
    refusal = roots_refusal(heap, [r], [])
    if refusal < 0:
        return refusal
    heap.marked[heap.roots[r]] = True
    return 0


def hand_back(heap, r):
    """Root r names the first that waits, which waits no more."""
    if r >= ROOTS:
        return OUT_OF_RANGE
    if len(heap.waiting) == 0:
        return point_root(heap, r, None)
    return point_root(heap, r, heap.waiting.pop(0))
