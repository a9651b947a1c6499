"""The interface: the calls of one line are handed in as one list, their answers are given back as one."""

from keptheap.calls import bind_entry, copy_root, deref_weak, drop_root, find_entry, get_slot, hand_back
from keptheap.calls import make_object, mark_object, put_slot, set_weak
from keptheap.collection import collect
from keptheap.state import Heap
from keptheap.telling import alone_by, count_all, holds_object, path_between, same_object, tell_object

# How many whole numbers are handed over behind each call's own number.
HANDED = {1: 2, 2: 2, 3: 1, 4: 3, 5: 3, 6: 2, 7: 3, 8: 2, 9: 3,
          10: 3, 11: 1, 12: 1, 13: 0, 14: 0, 15: 1, 16: 2, 17: 1, 18: 2}


def answer_by_roots(heap, number, handed):
    """Carry out one of the calls 1 to 6 and give back the number that it answers."""
    if number == 1:
        return make_object(heap, handed[0], handed[1])
    if number == 2:
        return copy_root(heap, handed[0], handed[1])
    if number == 3:
        return drop_root(heap, handed[0])
    if number == 4:
        return get_slot(heap, handed[0], handed[1], handed[2])
    if number == 5:
        return put_slot(heap, handed[0], handed[1], handed[2])
    return same_object(heap, handed[0], handed[1])


def answer_by_others(heap, number, handed):
    """Carry out one of the calls 7 to 12 and give back the number that it answers."""
    if number == 7:
        return set_weak(heap, handed[0], handed[1], handed[2])
    if number == 8:
        return deref_weak(heap, handed[0], handed[1])
    if number == 9:
        return bind_entry(heap, handed[0], handed[1], handed[2])
    if number == 10:
        return find_entry(heap, handed[0], handed[1], handed[2])
    if number == 11:
        return mark_object(heap, handed[0])
    return hand_back(heap, handed[0])


def answer_by_all(heap, number, handed):
    """Carry out one of the calls 13 to 18 and give back the list of numbers that it answers."""
    if number == 13:
        return [collect(heap)]
    if number == 14:
        return count_all(heap)
    if number == 15:
        return tell_object(heap, handed[0])
    if number == 16:
        return [holds_object(heap, handed[0], handed[1])]
    if number == 17:
        return [alone_by(heap, handed[0])]
    return path_between(heap, handed[0], handed[1])


def answer_call(heap, number, handed):
    """Carry out one call and give back the list of numbers that it answers."""
    if number <= 6:
        return [answer_by_roots(heap, number, handed)]
    if number <= 12:
        return [answer_by_others(heap, number, handed)]
    return answer_by_all(heap, number, handed)


def answers(calls):
    """Answer a line of calls: for each, how many numbers are answered, and these."""
    heap = Heap()
    given = []
    at = 0
    while at < len(calls):
        number = calls[at]
        behind = at + 1 + HANDED[number]
        answered = answer_call(heap, number, calls[at + 1:behind])
        given.append(len(answered))
        given.extend(answered)
        at = behind
    return given
