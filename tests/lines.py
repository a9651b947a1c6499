"""What the tests share: the calls by name, and ways to ask a line of them."""

import copy

from keptheap.heap import answer_call, answers
from keptheap.state import Heap

BIGGEST = 4294967295

# The calls that answer more than one number, if they aren't refused: count, told and path.
ROWS = (14, 15, 18)


def make(r, n):
    return [1, r, n]


def copied(r, t):
    return [2, r, t]


def drop(r):
    return [3, r]


def get(r, k, t):
    return [4, r, k, t]


def put(r, k, t):
    return [5, r, k, t]


def same(r, t):
    return [6, r, t]


def weak(w, r, kind):
    return [7, w, r, kind]


def deref(w, r):
    return [8, w, r]


def bind(t, k, v):
    return [9, t, k, v]


def find(t, k, r):
    return [10, t, k, r]


def mark(r):
    return [11, r]


def hand(r):
    return [12, r]


def collect():
    return [13]


def count():
    return [14]


def told(r):
    return [15, r]


def holds(r, t):
    return [16, r, t]


def alone(r):
    return [17, r]


def path(r, t):
    return [18, r, t]


def flat(calls):
    return [number for call in calls for number in call]


def split(given, count):
    """The answers of that many calls, each as its list of numbers; nothing may be left over."""
    found = []
    at = 0
    for place in range(count):
        behind = at + 1 + given[at]
        found.append(given[at + 1:behind])
        if len(found[-1]) != given[at]:
            raise AssertionError(f"answer {place} is cut short: {given}")
        at = behind
    if at != len(given):
        raise AssertionError(f"more is answered than was asked: {given}")
    return found


def in_form(call, answer):
    """The answer as a plain number, or as a list where count, told or path tell; it must be as long as it says."""
    if any(type(number) is not int for number in answer):
        raise AssertionError(f"not whole numbers: {answer}")
    if answer[0] < 0 or call[0] not in ROWS:
        length = 1
    else:
        length = {14: 4, 15: answer[0] + 2, 18: answer[0] + 1}[call[0]]
    if len(answer) != length or min(answer[1:], default=0) < 0:
        raise AssertionError(f"not an answer of {call}: {answer}")
    return answer if answer[0] >= 0 and call[0] in ROWS else answer[0]


def ask(*calls):
    """The calls' answers, a number each, or a list where count, told or path tell."""
    if len(calls) > 80:
        raise AssertionError("a line has at most 80 calls")
    found = split(answers(flat(calls)), len(calls))
    return [in_form(call, answer) for call, answer in zip(calls, found, strict=True)]


def ask_after(before, *calls):
    """The answers of the calls behind those of the list before."""
    return ask(*before, *calls)[len(before):]


def heap_after(*calls):
    heap = Heap()
    for call in calls:
        answer_call(heap, call[0], call[1:])
    return heap


def seen(heap):
    """A copy of all that a heap holds, to be held against a later one."""
    return copy.deepcopy(vars(heap))


def full_of_objects():
    """48 objects, the last of them named by root 0."""
    return [make(0, 1)] * 48


def full_of_entries():
    """Roots 0 to 6 name 7 objects; 48 of their 49 pairs have an entry, 6 for 6 has none."""
    pairs = [(table, key) for table in range(7) for key in range(7)]
    return [make(r, 2) for r in range(7)] + [bind(table, key, 0) for table, key in pairs[:48]]
