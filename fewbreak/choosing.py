"""Machines with other tapes: chosen by picks, or with a tape dropped."""

from fewbreak.errors import BadNumber, UnlikeTapes
from fewbreak.least import Rough, least_from, rough_of, rough_of_rows, trimmed
from fewbreak.sides import check_tapes, code_place, column_codes
from fewbreak.walks import determined, ends_ahead


def _check_picks(machine, tapes, picks):
    """Raises an error for picks that do not fit the tapes."""
    if len(picks) != machine.tapes:
        raise UnlikeTapes(len(picks), machine.tapes)
    for pick in picks:
        if not 0 <= pick < tapes:
            raise BadNumber(pick)


def picked(rough, tapes, picks):
    """The rough machine that takes a row if the old one takes the row of the runs at the picked tapes."""
    items = list(range(len(rough.letters) + 1))
    weights = [0] * tapes
    weight = 1
    for pick in picks[::-1]:
        weights[pick] += weight
        weight = weight * len(items)
    codes = [0]
    for tape_weight in weights:
        codes = [code + item * tape_weight for code in codes for item in items]
    # where no picked run has a letter, the old machine has read its row to the end
    over = len(rough.rows[0])
    classes = [over if code == 0 else rough.classes[code - 1] for code in codes[1:]]
    taken = len(rough.rows)
    lost = taken + 1
    rows = [list(row) + [taken if end else lost] for row, end in zip(rough.rows, rough.ends)]
    rows.extend([[taken] * (over + 1), [lost] * (over + 1)])
    return Rough(rough.letters, tapes, classes, rows, list(rough.ends) + [True, False])


def chosen(machine, tapes, picks):
    """The machine that takes a row if the old machine takes the row of the runs at the picked tapes."""
    check_tapes(machine.letters, tapes)
    _check_picks(machine, tapes, picks)
    return least_from(picked(rough_of(machine), tapes, picks))


def rough_dropped(rough, tape):
    """The rough machine of the other tapes that takes a row if some run can be put at the dropped one."""
    letters = rough.letters
    old = least_from(rough)
    labels = []
    for code in column_codes(letters, old.tapes):
        labels.append(code_place(letters, code[:tape] + code[tape + 1:]))
    arrows = []
    alone = []
    for row in old.rows:
        arrows.append([(label, target) for label, target in zip(labels, row) if label >= 0])
        alone.append([target for label, target in zip(labels, row) if label < 0])
    # behind the last letter of the other runs the put one may go on by itself
    ends = ends_ahead(alone, old.ends)
    many = max(labels) + 1
    rows, new_ends = determined(arrows, ends, many)
    return trimmed(rough_of_rows(letters, old.tapes - 1, rows, new_ends))


def dropped(machine, tape):
    """The machine of the other tapes that takes a row if some run can be put at the dropped one."""
    if not 0 <= tape < machine.tapes:
        raise BadNumber(tape)
    if machine.tapes == 1:
        raise UnlikeTapes(1, 2)
    return least_from(rough_dropped(rough_of(machine), tape))
