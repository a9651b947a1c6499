"""The calls, one function each: it changes the heap and gives back the number that is answered."""

from keptheap.state import KINDS, MOST_ENTRIES, MOST_OBJECTS, MOST_SLOTS, ROOTS, WEAK_NAMES

OUT_OF_RANGE = -1
FULL = -2
EMPTY_ROOT = -3
NO_SUCH_SLOT = -5


def point_root(heap, r, named):
    """Root r names that object, or is empty; gives back 1, or 0 if it is empty."""
    heap.roots[r] = named
    return 0 if named is None else 1


def make_object(heap, r, n):
    """Root r names a new object with n empty slots."""
    if r >= ROOTS or n > MOST_SLOTS:
        return OUT_OF_RANGE
    if len(heap.slots) >= MOST_OBJECTS:
        return FULL
    heap.roots[r] = heap.add_object(n)
    return 0


def copy_root(heap, r, t):
    """Root r names what root t names."""
    if r >= ROOTS or t >= ROOTS:
        return OUT_OF_RANGE
    return point_root(heap, r, heap.roots[t])


def drop_root(heap, r):
    """Root r is empty; its object stays, for a collection alone takes objects away."""
    if r >= ROOTS:
        return OUT_OF_RANGE
    heap.roots[r] = None
    return 0


def slot_refusal(heap, r, k, t):
    """Why slot k of root r's object and root t can't be used, or 0 if they can."""
    if r >= ROOTS or t >= ROOTS:
        return OUT_OF_RANGE
    if heap.roots[r] is None:
        return EMPTY_ROOT
    if k >= len(heap.slots[heap.roots[r]]):
        return NO_SUCH_SLOT
    return 0


def get_slot(heap, r, k, t):
    """Root t names what slot k of root r's object names."""
    refusal = slot_refusal(heap, r, k, t)
    if refusal < 0:
        return refusal
    return point_root(heap, t, heap.slots[heap.roots[r]][k])


def put_slot(heap, r, k, t):
    """Slot k of root r's object names what root t names."""
    refusal = slot_refusal(heap, r, k, t)
    if refusal < 0:
        return refusal
    heap.slots[heap.roots[r]][k] = heap.roots[t]
    return 0


def same_object(heap, r, t):
    """Tell whether both roots name one object, or both are empty."""
    if r >= ROOTS or t >= ROOTS:
        return OUT_OF_RANGE
    return 1 if heap.roots[r] == heap.roots[t] else 0


def set_weak(heap, w, r, kind):
    """Weak name w names what root r names, and is of that kind."""
    if w >= WEAK_NAMES or r >= ROOTS or kind >= KINDS:
        return OUT_OF_RANGE
    heap.weak_names[w] = heap.roots[r]
    heap.weak_kinds[w] = kind
    return 0


def deref_weak(heap, w, r):
    """Root r names what weak name w names."""
    if w >= WEAK_NAMES or r >= ROOTS:
        return OUT_OF_RANGE
    return point_root(heap, r, heap.weak_names[w])


def bind_entry(heap, t, k, v):
    """The entry in root t's object for root k's object has root v's object; if v is empty, there is none."""
    if t >= ROOTS or k >= ROOTS or v >= ROOTS:
        return OUT_OF_RANGE
    if heap.roots[t] is None or heap.roots[k] is None:
        return EMPTY_ROOT
    entry = (heap.roots[t], heap.roots[k])
    # An empty value adds no entry, so it is never refused for there being too many.
    if heap.roots[v] is None:
        heap.entries.pop(entry, None)
        return 0
    if entry not in heap.entries and len(heap.entries) >= MOST_ENTRIES:
        return FULL
    heap.entries[entry] = heap.roots[v]
    return 0
