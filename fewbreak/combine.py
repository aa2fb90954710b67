"""Machines made from one or two others by what they take together."""

from fewbreak.errors import BadRun, UnlikeParts, UnlikeTapes
from fewbreak.least import Rough, aligned, least_from, least_of, rough_of, rough_turned, trimmed
from fewbreak.runs import is_run
from fewbreak.sides import check_tapes, column_place, columns_of, many_columns
from fewbreak.walks import walked

WON = ()


def _check_alike(one, other):
    """Raises an error if two machines have unequal letters or tapes."""
    if one.letters != other.letters:
        raise UnlikeParts(str(one.letters), str(other.letters))
    if one.tapes != other.tapes:
        raise UnlikeTapes(one.tapes, other.tapes)


def _won(table, ends):
    """For each standing, whether it is an end that is never left."""
    return [end and row.count(standing) == len(row) for standing, (row, end) in enumerate(zip(table, ends))]


def any_of(letters, tapes, parts):
    """The rough machine that takes what at least one of some rough machines takes."""
    if not parts:
        return Rough(letters, tapes, [0] * many_columns(letters, tapes), [[0]], [False])
    classes, firsts, tables = aligned(parts)
    wons = [_won(table, part.ends) for table, part in zip(tables, parts)]
    known = {}

    def key_of(target):
        # one machine that will take is enough, whatever the others do
        won = any([flags[standing] for flags, standing in zip(wons, target)])
        return WON if won else target

    def nexts_of(key):
        if key == WON:
            return [WON] * len(firsts)
        rows = [table[standing] for table, standing in zip(tables, key)]
        targets = list(zip(*rows))
        for target in targets:
            if target not in known:
                known[target] = key_of(target)
        return [known[target] for target in targets]

    keys, found = walked(key_of((0,) * len(parts)), nexts_of)
    ends = [key == WON or any([part.ends[standing] for part, standing in zip(parts, key)]) for key in keys]
    return trimmed(Rough(letters, tapes, classes, found, ends))


def every_of(letters, tapes, parts):
    """The rough machine that takes what all of some rough machines take."""
    return rough_turned(any_of(letters, tapes, [rough_turned(part) for part in parts]))


def joined(one, other):
    """The machine that takes what at least one of two machines takes."""
    _check_alike(one, other)
    return least_from(any_of(one.letters, one.tapes, [rough_of(one), rough_of(other)]))


def met(one, other):
    """The machine that takes what both of two machines take."""
    _check_alike(one, other)
    return least_from(every_of(one.letters, one.tapes, [rough_of(one), rough_of(other)]))


def less(one, other):
    """The machine that takes what the first machine takes and the second one does not."""
    _check_alike(one, other)
    return least_from(every_of(one.letters, one.tapes, [rough_of(one), rough_turned(rough_of(other))]))


def turned(machine):
    """The machine that takes all rows that a machine does not take."""
    return least_of(machine.letters, machine.tapes, machine.rows, [not end for end in machine.ends])


def _one_standing(letters, tapes, end):
    """The machine that takes all rows or none."""
    check_tapes(letters, tapes)
    return least_of(letters, tapes, [[0] * many_columns(letters, tapes)], [end])


def any_row(letters, tapes):
    """The machine that takes all rows."""
    return _one_standing(letters, tapes, True)


def no_row(letters, tapes):
    """The machine that takes no row."""
    return _one_standing(letters, tapes, False)


def only_row(letters, row):
    """The machine that takes just one row."""
    check_tapes(letters, len(row))
    for at, run in enumerate(row):
        if not is_run(letters, run):
            raise BadRun(at)
    places = [column_place(letters, column) for column in columns_of(row)]
    last = len(places)
    rows = [[last + 1] * many_columns(letters, len(row)) for _ in range(last + 2)]
    for standing, place in enumerate(places):
        rows[standing][place] = standing + 1
    return least_of(letters, len(row), rows, [standing == last for standing in range(last + 2)])
