"""What there is on a line: objects and their slots, roots, weak names, entries, marks and those that wait."""

ROOTS = 12
WEAK_NAMES = 12
KINDS = 2
MOST_OBJECTS = 48
MOST_SLOTS = 8
MOST_ENTRIES = 48

SHORT = 0


class Heap:
    def __init__(self):
        """All that a line's calls change: an object is known by its number, an empty name is None."""
        self.made = 0
        self.slots = {}
        self.roots = [None] * ROOTS
        self.weak_names = [None] * WEAK_NAMES
        self.weak_kinds = [SHORT] * WEAK_NAMES
        self.entries = {}
        self.marked = {}
        self.waiting = []

    def add_object(self, n):
        """Make an object with n empty slots and give back its number."""
        # No number is given twice, so a name can never come to mean another object.
        made = self.made
        self.made = made + 1
        self.slots[made] = [None] * n
        return made
