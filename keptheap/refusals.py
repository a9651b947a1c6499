"""The refusals, and what the calls ask of roots before they change anything."""

from keptheap.state import ROOTS

OUT_OF_RANGE = -1
FULL = -2
EMPTY_ROOT = -3
NO_PATH = -4
NO_SUCH_SLOT = -5


def roots_refusal(heap, needed, others):
    """Why these roots can't be used, or 0 if they can: the needed ones must name an object, the others may be empty."""
    # All are looked at for being too big before one is looked at for being empty: -1 is told ahead of -3.
    for r in needed + others:
        if r >= ROOTS:
            return OUT_OF_RANGE
    for r in needed:
        if heap.roots[r] is None:
            return EMPTY_ROOT
    return 0
