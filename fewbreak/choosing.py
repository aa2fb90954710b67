"""Machines with other tapes: chosen by picks, or with a tape dropped."""

from fewbreak.errors import BadNumber, UnlikeTapes
from fewbreak.least import least, least_of
from fewbreak.sides import check_tapes, code_place, column_codes
from fewbreak.walks import determined, ends_ahead


def _check_picks(machine, tapes, picks):
    """Raises an error for picks that do not fit the tapes."""
    if len(picks) != machine.tapes:
        raise UnlikeTapes(len(picks), machine.tapes)
    for pick in picks:
        if not 0 <= pick < tapes:
            raise BadNumber(pick)


def chosen(machine, tapes, picks):
    """The machine that takes a row if the old machine takes the row of the runs at the picked tapes."""
    check_tapes(machine.letters, tapes)
    _check_picks(machine, tapes, picks)
    places = []
    for code in column_codes(machine.letters, tapes):
        places.append(code_place(machine.letters, [code[pick] for pick in picks]))
    rows = []
    for standing, row in enumerate(machine.rows):
        # where no picked run has a letter, the old machine has read its row to the end
        rows.append([standing if place < 0 else row[place] for place in places])
    return least_of(machine.letters, tapes, rows, machine.ends)


def dropped(machine, tape):
    """The machine of the other tapes that takes a row if some run can be put at the dropped one."""
    if not 0 <= tape < machine.tapes:
        raise BadNumber(tape)
    if machine.tapes == 1:
        raise UnlikeTapes(1, 2)
    letters = machine.letters
    old = least(machine)
    labels = []
    for code in column_codes(letters, old.tapes):
        labels.append(code_place(letters, code[:tape] + code[tape + 1:]))
    arrows = []
    alone = []
    for row in old.rows:
        arrows.append([(label, target) for label, target in zip(labels, row) if label >= 0])
        alone.append([target for label, target in zip(labels, row) if label < 0])
    # behind the last letter of the other runs the put one may go on by itself
    ends = ends_ahead(alone, old.ends)
    many = max(labels) + 1
    rows, new_ends = determined(arrows, ends, many)
    return least_of(letters, old.tapes - 1, rows, new_ends)
