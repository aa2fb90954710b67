"""Machines made from one or two others by what they take together."""

from fewbreak.errors import BadRun, UnlikeParts, UnlikeTapes
from fewbreak.least import least_of
from fewbreak.runs import is_run
from fewbreak.sides import check_tapes, column_place, columns_of, many_columns
from fewbreak.walks import walked


def _check_alike(one, other):
    """Raises an error if two machines have unequal letters or tapes."""
    if one.letters != other.letters:
        raise UnlikeParts(str(one.letters), str(other.letters))
    if one.tapes != other.tapes:
        raise UnlikeTapes(one.tapes, other.tapes)


def _side_by_side(one, other, is_end):
    """The machine that reads like two machines; a pair of their standings is an end if is_end says so of their ends."""
    _check_alike(one, other)
    keys, rows = walked((0, 0), lambda key: list(zip(one.rows[key[0]], other.rows[key[1]])))
    ends = [is_end(one.ends[left], other.ends[right]) for left, right in keys]
    return least_of(one.letters, one.tapes, rows, ends)


def joined(one, other):
    """The machine that takes what at least one of two machines takes."""
    return _side_by_side(one, other, lambda left, right: left or right)


def met(one, other):
    """The machine that takes what both of two machines take."""
    return _side_by_side(one, other, lambda left, right: left and right)


def less(one, other):
    """The machine that takes what the first machine takes and the second one does not."""
    return _side_by_side(one, other, lambda left, right: left and not right)


def turned(machine):
    """The machine that takes all rows that a machine does not take."""
    return least_of(machine.letters, machine.tapes, machine.rows, [not end for end in machine.ends])


def _one_standing(letters, tapes, end):
    """The machine that takes all rows or none."""
    check_tapes(letters, tapes)
    return least_of(letters, tapes, [[0] * many_columns(letters, tapes)], [end])


def any_row(letters, tapes):
    """The machine that takes all rows."""
    return _one_standing(letters, tapes, True)


def no_row(letters, tapes):
    """The machine that takes no row."""
    return _one_standing(letters, tapes, False)


def only_row(letters, row):
    """The machine that takes just one row."""
    check_tapes(letters, len(row))
    for at, run in enumerate(row):
        if not is_run(letters, run):
            raise BadRun(at)
    places = [column_place(letters, column) for column in columns_of(row)]
    last = len(places)
    rows = [[last + 1] * many_columns(letters, len(row)) for _ in range(last + 2)]
    for standing, place in enumerate(places):
        rows[standing][place] = standing + 1
    return least_of(letters, len(row), rows, [standing == last for standing in range(last + 2)])
