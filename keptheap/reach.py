"""What can be reached from some objects, and by which slots."""


def values_by_entries(heap, latest, reached):
    """The values of the entries that count now that the latest object is reached."""
    found = []
    for entry in heap.entries:
        if latest in entry and entry[0] in reached and entry[1] in reached:
            found.append(heap.entries[entry])
    return found


def reached_from(heap, starts):
    """All that can be reached from these objects, as a dict of True."""
    reached = {}
    ahead = list(starts)
    while ahead:
        latest = ahead.pop()
        if latest not in reached:
            reached[latest] = True
            ahead.extend([named for named in heap.slots[latest] if named is not None])
            ahead.extend(values_by_entries(heap, latest, reached))
    return reached


def first_row(heap, start, goal):
    """The first of the shortest rows of slots that lead from start to goal, or None if none leads there."""
    rows = {start: []}
    ahead = [start]
    # The objects ahead stand in the order of their rows, so the row found first is the first of its length.
    while ahead and goal not in rows:
        further = []
        for at in ahead:
            for k, named in enumerate(heap.slots[at]):
                if named is not None and named not in rows:
                    rows[named] = rows[at] + [k]
                    further.append(named)
        ahead = further
    return rows.get(goal)
