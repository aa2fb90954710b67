"""The rows that a machine takes, in their order."""

from fewbreak.errors import BadNumber
from fewbreak.least import least
from fewbreak.sides import column_at, columns, runs_of

LENGTH = 3
MOST_LENGTH = 12


def _check_length(length):
    """Raises BadNumber for a number of columns that is not from 0 to 12."""
    if not 0 <= length <= MOST_LENGTH:
        raise BadNumber(length)


def _first_arrows(rows):
    """For each standing but the first one, the pair of the standing and the place by which it is first reached."""
    found = {}
    for standing, row in enumerate(rows):
        for place, target in enumerate(row):
            if target not in found:
                found[target] = (standing, place)
    return found


def first_row(machine):
    """The first row that a machine takes, None if it takes none."""
    taker = least(machine)
    if True not in taker.ends:
        return None
    # the standings of a least machine have the order of the first lists of columns that lead to them
    standing = taker.ends.index(True)
    arrows = _first_arrows(taker.rows)
    found = []
    while standing > 0:
        standing, place = arrows[standing]
        found.append(column_at(taker.letters, taker.tapes, place))
    return runs_of(found[::-1], taker.tapes)


def _many_ways(taker, length):
    """For each number of columns up to a length, how many lists of so many lead from each standing to an end."""
    ways = [1 if end else 0 for end in taker.ends]
    found = [ways]
    for _ in range(length):
        ways = [sum([ways[target] for target in row]) for row in taker.rows]
        found.append(ways)
    return found


def _ways(taker, many_ways, items, found, standing):
    """The rows whose columns are those found, which lead to a standing, and as many more as many_ways tells of."""
    if len(many_ways) == 1:
        yield runs_of(found, taker.tapes)
        return
    fewer = many_ways[:-1]
    for place, target in enumerate(taker.rows[standing]):
        if fewer[-1][target] > 0:
            longer = found + [items[place]]
            yield from _ways(taker, fewer, items, longer, target)


def taken_rows(machine, length=LENGTH):
    """A generator of all rows with at most so many columns that a machine takes, in order."""
    _check_length(length)
    taker = least(machine)
    items = list(columns(taker.letters, taker.tapes))
    many_ways = _many_ways(taker, length)
    for last in range(length + 1):
        if many_ways[last][0] > 0:
            ways = many_ways[:last + 1]
            yield from _ways(taker, ways, items, [], 0)


def count_rows(machine, length=LENGTH):
    """The number of the rows with at most so many columns that a machine takes."""
    _check_length(length)
    return sum([ways[0] for ways in _many_ways(least(machine), length)])
