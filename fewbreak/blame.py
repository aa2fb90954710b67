"""Runs of a machine with blame: those in some least broken lot within the lot of the machine.

A run is one of these exactly if it breaks the rule together with some runs of the machine that keep the rule among
themselves: the least broken lots within all of these have the run.
"""

from fewbreak.broken import rough_broken
from fewbreak.choosing import picked, rough_dropped
from fewbreak.combine import every_of, only_row
from fewbreak.errors import BadRun, NotHeld
from fewbreak.follows import first_taken, many_enough
from fewbreak.kept import check_held
from fewbreak.least import least_from, rough_of, rough_turned
from fewbreak.runs import is_run
from fewbreak.sides import row_key


def _kept_others(rule, tapes, others):
    """A list of the rough machine of the rows whose runs at some tapes keep a rule; without tapes it is empty."""
    if not others:
        return []
    return [rough_turned(picked(rough_broken(rule, len(others)), tapes, others))]


def _blamed_beside(taker, rule, tapes):
    """The rough machine of the runs that break a rule with so many runs of a machine less one, which keep it."""
    letters = rule.letters
    found = every_of(letters, tapes, [rough_broken(rule, tapes)] + _kept_others(rule, tapes, list(range(1, tapes))))
    # the machine is asked one tape at a time, which keeps what is made of it small
    for tape in range(tapes - 1, 0, -1):
        found = rough_dropped(every_of(letters, tape + 1, [found, picked(taker, tape + 1, [tape])]), tape)
    return found


def blameless(machine, rule):
    """The machine of the runs of a machine that are without blame."""
    check_held(machine, rule)
    taker = rough_of(machine)
    most = many_enough(rule)
    # other runs may stand at several tapes, so lots of two runs or more need no further tapes than the most
    sizes = [1, most] if most > 1 else list(range(1, most + 1))
    blamed = [_blamed_beside(taker, rule, tapes) for tapes in sizes]
    return least_from(every_of(rule.letters, 1, [taker] + [rough_turned(part) for part in blamed]))


def _first_with(machine, rule, run, spot, tapes, most):
    """The first row with a run at one tape, which breaks a rule while its other runs, all of a machine, keep it.

    None without one that has at most so many columns.
    """
    others = [tape for tape in range(tapes) if tape != spot]
    parts = [rough_broken(rule, tapes), picked(rough_of(only_row(rule.letters, [run])), tapes, [spot])]
    parts.extend([picked(rough_of(machine), tapes, [tape]) for tape in others])
    return first_taken(parts + _kept_others(rule, tapes, others), most)


def _first_blame(machine, rule, run):
    """The first least broken lot within the lot of a machine that has one of its runs, None without one."""
    found = []
    most = None
    for tapes in range(1, many_enough(rule) + 1):
        # no lot with the run has a shorter longest run, and none with more runs comes ahead of it
        if most == len(run):
            break
        for spot in range(tapes):
            row = _first_with(machine, rule, run, spot, tapes, most)
            if row is not None:
                length, places = row_key(rule.letters, row)
                found.append((length, tapes, places, row))
                most = length
    return min(found)[3] if found else None


def blame(machine, rule, run):
    """None if a run of a machine is without blame, otherwise the first least broken lot that has it."""
    check_held(machine, rule)
    if not is_run(rule.letters, run):
        raise BadRun(0)
    if not machine.takes([run]):
        raise NotHeld(run)
    return _first_blame(machine, rule, run)
