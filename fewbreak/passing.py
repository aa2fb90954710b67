"""Machines behind programs, and machines written by programs."""

from fewbreak.errors import UnlikeParts, UnlikeTapes
from fewbreak.least import least, least_of
from fewbreak.sides import check_tapes, code_place, column_codes
from fewbreak.walks import determined, ends_ahead, walked

DROPPED = ()


def _moves_of(program):
    """For each standing of a program, and at the end for a run that has ended, what comes of each item of a column.

    This is None if the run is dropped, or goes on behind its end; otherwise the written item and the next standing.
    Items are numbers as in the codes of columns.
    """
    ended = program.standings
    found = []
    for row, end in zip(program.rows, program.ends):
        moves = [(0, ended) if end else None]
        for line in row:
            moves.append(None if line is None else (program.write.place(line[0]) + 1, line[1]))
        found.append(moves)
    found.append([(0, ended)] + [None] * len(program.read))
    return found


def _step(moves, taker, ahead, key, code):
    """The key behind a key: the standing of the machine that reads what is written, then those at the tapes."""
    written = []
    after = []
    for standing, item in zip(key[1:], code):
        move = moves[standing][item]
        if move is None:
            return DROPPED
        written.append(move[0])
        after.append(move[1])
    target = taker.rows[key[0]][code_place(taker.letters, written)]
    if not ahead[target]:
        return DROPPED
    return tuple([target] + after)


def behind(program, machine):
    """The machine that takes a row if the program writes for its runs a row that the machine takes."""
    if program.write != machine.letters:
        raise UnlikeParts(str(program.write), str(machine.letters))
    check_tapes(program.read, machine.tapes)
    taker = least(machine)
    ahead = ends_ahead(taker.rows, taker.ends)
    moves = _moves_of(program)
    codes = column_codes(program.read, taker.tapes)

    def nexts_of(key):
        if key == DROPPED:
            return [DROPPED] * len(codes)
        return [_step(moves, taker, ahead, key, code) for code in codes]

    keys, rows = walked((0,) * (taker.tapes + 1), nexts_of)
    whole = list(program.ends) + [True]
    ends = []
    for key in keys:
        ends.append(key != DROPPED and taker.ends[key[0]] and all([whole[standing] for standing in key[1:]]))
    return least_of(program.read, taker.tapes, rows, ends)


def passed(program, machine):
    """The machine that takes the runs that a program writes for the runs of a machine of one tape."""
    if program.read != machine.letters:
        raise UnlikeParts(str(program.read), str(machine.letters))
    if machine.tapes != 1:
        raise UnlikeTapes(machine.tapes, 1)

    def lines_of(key):
        return [(line, target) for line, target in zip(program.rows[key[0]], machine.rows[key[1]]) if line is not None]

    keys, rows = walked((0, 0), lambda key: [(line[1], target) for line, target in lines_of(key)])
    arrows = []
    for key, row in zip(keys, rows):
        labels = [program.write.place(line[0]) for line, _ in lines_of(key)]
        arrows.append(list(zip(labels, row)))
    ends = [program.ends[standing] and machine.ends[held] for standing, held in keys]
    new_rows, new_ends = determined(arrows, ends, len(program.write))
    return least_of(program.write, 1, new_rows, new_ends)
