"""Machines behind programs, and machines written by programs."""

from fewbreak.errors import UnlikeParts, UnlikeTapes
from fewbreak.least import Rough, least_from, least_of, rough_of
from fewbreak.sides import check_tapes
from fewbreak.walks import determined, ends_ahead, numbered, walked

DROPPED = ()


def _moves_of(program, firsts):
    """For each standing of a program, and at the end for a run that has ended, what comes of each item of a column.

    This is None if the run is dropped; otherwise the written item and the next standing. Behind the end of a run all
    items are as `#`. The items are 0 for `#` and then the letters with some places; a written item is a number as in
    codes of columns.
    """
    ended = program.standings
    found = []
    for row, end in zip(program.rows, program.ends):
        moves = [(0, ended) if end else None]
        for first in firsts:
            line = row[first]
            moves.append(None if line is None else (program.write.place(line[0]) + 1, line[1]))
        found.append(moves)
    found.append([(0, ended)] * (len(firsts) + 1))
    return found


def _with_tape(ways, moves, base):
    """Ways to read some tapes, made longer by one tape: pairs of what is written and the next standings, or None."""
    return [None if way is None or move is None else (way[0] * base + move[0], way[1] + (move[1],))
            for way in ways for move in moves]


def _classes_by_items(items, tapes, many):
    """For each column the number of the column of items that it stands for, by the items of its letters."""
    codes = [0]
    for _ in range(tapes):
        codes = [code * many + item for code in codes for item in items]
    return [code - 1 for code in codes[1:]]


def rough_behind(program, rough):
    """The rough machine behind a program, over the letters that the program reads."""
    # letters of which the program makes the same everywhere are one
    rows = program.rows
    items, firsts = numbered(list(zip(*rows)))
    base = len(program.write) + 1
    moves = _moves_of(program, firsts)
    ahead = ends_ahead(rough.rows, rough.ends)
    many = len(firsts) + 1
    classes = _classes_by_items([0] + [item + 1 for item in items], rough.tapes, many)
    dropped_row = [DROPPED] * (max(classes) + 1)

    def key_behind(standing, way):
        if way is None:
            return DROPPED
        code, after = way
        # the code 0 comes where all runs have ended
        target = standing if code == 0 else rough.rows[standing][rough.classes[code - 1]]
        return (target,) + after if ahead[target] else DROPPED

    def nexts_of(key):
        if key == DROPPED:
            return dropped_row
        ways = [(0, ())]
        for standing in key[1:]:
            ways = _with_tape(ways, moves[standing], base)
        return [key_behind(key[0], way) for way in ways[1:]]

    keys, found = walked((0,) * (rough.tapes + 1), nexts_of)
    whole = list(program.ends) + [True]
    ends = [key != DROPPED and rough.ends[key[0]] and all([whole[standing] for standing in key[1:]]) for key in keys]
    return Rough(program.read, rough.tapes, classes, found, ends)


def behind(program, machine):
    """The machine that takes a row if the program writes for its runs a row that the machine takes."""
    if program.write != machine.letters:
        raise UnlikeParts(str(program.write), str(machine.letters))
    check_tapes(program.read, machine.tapes)
    return least_from(rough_behind(program, rough_of(machine)))


def passed(program, machine):
    """The machine that takes the runs that a program writes for the runs of a machine of one tape."""
    if program.read != machine.letters:
        raise UnlikeParts(str(program.read), str(machine.letters))
    if machine.tapes != 1:
        raise UnlikeTapes(machine.tapes, 1)

    def lines_of(key):
        return [(line, target) for line, target in zip(program.rows[key[0]], machine.rows[key[1]]) if line is not None]

    keys, rows = walked((0, 0), lambda key: [(line[1], target) for line, target in lines_of(key)])
    arrows = []
    for key, row in zip(keys, rows):
        labels = [program.write.place(line[0]) for line, _ in lines_of(key)]
        arrows.append(list(zip(labels, row)))
    ends = [program.ends[standing] and machine.ends[held] for standing, held in keys]
    new_rows, new_ends = determined(arrows, ends, len(program.write))
    return least_of(program.write, 1, new_rows, new_ends)
