"""The interface: the calls of one line are handed in as one list, their answers are given back as one."""

from keptheap.calls import bind_entry, copy_root, deref_weak, drop_root, get_slot, make_object, put_slot
from keptheap.calls import same_object, set_weak
from keptheap.state import Heap

# How many whole numbers are handed over behind each call's own number.
HANDED = {1: 2, 2: 2, 3: 1, 4: 3, 5: 3, 6: 2, 7: 3, 8: 2, 9: 3}


def answer_call(heap, number, handed):
    """Carry out one call and give back the list of numbers that it answers."""
    if number == 1:
        return [make_object(heap, handed[0], handed[1])]
    if number == 2:
        return [copy_root(heap, handed[0], handed[1])]
    if number == 3:
        return [drop_root(heap, handed[0])]
    if number == 4:
        return [get_slot(heap, handed[0], handed[1], handed[2])]
    if number == 5:
        return [put_slot(heap, handed[0], handed[1], handed[2])]
    if number == 6:
        return [same_object(heap, handed[0], handed[1])]
    if number == 7:
        return [set_weak(heap, handed[0], handed[1], handed[2])]
    if number == 8:
        return [deref_weak(heap, handed[0], handed[1])]
    # No number but 9 is left: the others have no place in HANDED.
    return [bind_entry(heap, handed[0], handed[1], handed[2])]


def answers(calls):
    """Answer a line of calls: for each, how many numbers are answered, and these."""
    heap = Heap()
    given = []
    at = 0
    while at < len(calls):
        number = calls[at]
        behind = at + 1 + HANDED[number]
        answered = answer_call(heap, number, calls[at + 1:behind])
        given.append(len(answered))
        given.extend(answered)
        at = behind
    return given
