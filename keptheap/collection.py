"""A collection, and how much one would keep."""

from keptheap.reach import reached_from
from keptheap.state import SHORT


def reached_by_names(heap, roots):
    """What can be reached from these roots' objects and those that wait."""
    return reached_from(heap, [named for named in roots if named is not None] + heap.waiting)


def due_back(heap, reached):
    """The marked objects that aren't reached, in the order in which they were made."""
    # The slots' dict keeps the order of making; that of the marks is the order of marking.
    return [named for named in heap.slots if named in heap.marked and named not in reached]


def how_many_kept(heap, roots):
    """How many objects a collection would leave if these were the roots; nothing is changed."""
    reached = reached_by_names(heap, roots)
    return len(reached_from(heap, list(reached) + due_back(heap, reached)))


def empty_weak_names(heap, reached, kept):
    """Empty the short names of what wasn't reached at first, and the long ones of what isn't kept."""
    for w, named in enumerate(list(heap.weak_names)):
        staying = reached if heap.weak_kinds[w] == SHORT else kept
        if named not in staying:
            heap.weak_names[w] = None


def drop_entries(heap, kept):
    """Take away the entries whose table or key isn't kept."""
    for entry in list(heap.entries):
        if entry[0] not in kept or entry[1] not in kept:
            heap.entries.pop(entry)


def remove_objects(heap, kept):
    """Remove the objects that aren't kept and give back how many there were."""
    removed = [named for named in heap.slots if named not in kept]
    for named in removed:
        heap.slots.pop(named)
    return len(removed)


def collect(heap):
    """Carry out a collection and give back how many objects were removed."""
    reached = reached_by_names(heap, heap.roots)
    for named in due_back(heap, reached):
        heap.waiting.append(named)
        heap.marked.pop(named)
    kept = reached_by_names(heap, heap.roots)
    empty_weak_names(heap, reached, kept)
    drop_entries(heap, kept)
    return remove_objects(heap, kept)
