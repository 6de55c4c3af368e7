"""The search for a derivation or a refusal, of whatever needs others of its kind."""


def first_lacking(wanted, numbers):
    """The first tuple (task, key) of a list whose task is no row yet, or None."""
    for one in wanted:
        if numbers.get(one[1]) is None:
            return one
    return None


def searched(start, needs, key_of):
    """A tuple (rows, None) if a task can be derived, or (None, road) if it is refused.

    A task is a tuple; needs gives the list of the tasks that a task needs, or None if it is impossible, and key_of
    a string for it. Each row is a task with a tuple of the numbers of the earlier rows that it needs; the task that
    is searched for has the last one. The road holds the tasks that are begun, each of which needs the next one; the
    last one is impossible, or needs one of them. A key has the number of its row, or None from when its task is
    begun until then. The loop ends if only finitely many tasks come up.
    """
    rows, numbers = [], {key_of(start): None}
    road, keys, wants = [start], [key_of(start)], []
    while road:
        if len(wants) < len(road):
            needed = needs(road[-1])
            if needed is None:
                return None, road
            wants.append([(task, key_of(task)) for task in needed])
        lacking = first_lacking(wants[-1], numbers)
        if lacking is None:
            numbers[keys.pop()] = len(rows)
            rows.append(road.pop() + (tuple([numbers[key] for _, key in wants.pop()]),))
        elif lacking[1] in numbers:
            return None, road
        else:
            road.append(lacking[0])
            keys.append(lacking[1])
            numbers[lacking[1]] = None
    return rows, None
