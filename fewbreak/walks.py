"""Walks over standings that are not made into a machine or a program yet.

Standings are numbered from 0, and the walk begins at the standing 0. A row of next standings may have any length here.
"""


def walked(start, nexts_of):
    """All keys that are reached from a key, and for each of them the list of the numbers of its next keys.

    A number is the place of a key in the list of keys. The keys are numbered as they are reached, which is the order
    that least machines ask for.
    """
    numbers = {start: 0}
    keys = [start]
    rows = []
    while len(rows) < len(keys):
        nexts = nexts_of(keys[len(rows)])
        for key in nexts:
            if key not in numbers:
                numbers[key] = len(keys)
                keys.append(key)
        rows.append([numbers[key] for key in nexts])
    return keys, rows


def numbered(keys):
    """For each item of a list the number of its kind, and for each kind the first index at which it stands.

    Equal items are of one kind; the kinds are numbered as they come.
    """
    numbers = {}
    found = []
    firsts = []
    for at, key in enumerate(keys):
        if key not in numbers:
            numbers[key] = len(firsts)
            firsts.append(at)
        found.append(numbers[key])
    return found, firsts


def ends_ahead(rows, ends):
    """For each standing, whether some way from it, possibly the empty one, leads to an end."""
    back = [[] for _ in rows]
    for standing, row in enumerate(rows):
        for target in row:
            back[target].append(standing)
    found = list(ends)
    waiting = [standing for standing, end in enumerate(ends) if end]
    while waiting:
        target = waiting.pop()
        for standing in back[target]:
            if not found[standing]:
                found[standing] = True
                waiting.append(standing)
    return found


def determined(arrows, ends, many):
    """The rows and the ends of the standings that stand for sets of old ones.

    The arrows of an old standing are pairs of a label, from 0 to many - 1, and an old standing; several arrows may have
    one label. A set is an end if it has an end. Old standings that lead to no end are left out of the sets, which keeps
    them few and changes nothing for what is taken.
    """
    ahead = ends_ahead([[target for _, target in row] for row in arrows], ends)
    kept = [[(label, target) for label, target in row if ahead[target]] for row in arrows]

    def nexts_of(held):
        found = [[] for _ in range(many)]
        for standing in held:
            for label, target in kept[standing]:
                found[label].append(target)
        return [tuple(sorted(set(targets))) for targets in found]

    start = (0,) if ahead[0] else ()
    keys, rows = walked(start, nexts_of)
    return rows, [any([ends[standing] for standing in held]) for held in keys]
