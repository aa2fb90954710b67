"""Machines of one tape put together."""

from fewbreak.combine import any_of, every_of
from fewbreak.errors import UnlikeTapes
from fewbreak.least import least_from, rough_of
from fewbreak.looks import look
from fewbreak.passing import rough_behind
from fewbreak.rules import check_letters
from fewbreak.yokes import check_sides


def _check_one_tape(machines):
    """Raises UnlikeTapes for the first machine with more tapes than one."""
    for machine in machines:
        if machine.tapes != 1:
            raise UnlikeTapes(machine.tapes, 1)


def yoked(letters, machines):
    """The machine of the runs whose looks are taken by some machines, each over the letters of its side."""
    _check_one_tape(machines)
    check_sides(letters, [machine.letters for machine in machines])
    parts = []
    for machine in machines:
        parts.append(rough_behind(look(letters, machine.letters.names), rough_of(machine)))
    return least_from(every_of(letters, 1, parts))


def poured(first, *others):
    """The machine of the runs that at least one of some machines takes."""
    _check_one_tape((first,) + others)
    check_letters(first.letters, others)
    return least_from(any_of(first.letters, 1, [rough_of(machine) for machine in (first,) + others]))
