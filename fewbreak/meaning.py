"""The plain meaning of rules for small told lots.

The parts of a told lot are told by numbers here: a part has the run with the index i if its number has the bit i. The
parts that break a rule are a list with True or False for each part, by its number.
"""

from fewbreak.errors import TooMany
from fewbreak.runs import told_lot

MOST_RUNS = 10


def _unions(bits):
    """For each part of a list of numbers, told by the bits of an index, the bits that at least one of them has."""
    found = [0]
    for bit in bits:
        found = found + [union | bit for union in found]
    return found


def _sizes(many):
    """For each part of so many runs the number of its runs."""
    found = [0]
    for _ in range(many):
        found = found + [size + 1 for size in found]
    return found


def _spread(parts, many):
    """The parts of so many runs that have one of some parts within them."""
    found = list(parts)
    for at in range(many):
        bit = 1 << at
        for part in range(len(found)):
            if part & bit and found[part - bit]:
                found[part] = True
    return found


def _none_breaks(rule, runs):
    """The parts that break none: those with a run."""
    return [part > 0 for part in range(1 << len(runs))]


def _all_breaks(rule, runs):
    """The parts that break all: no part does."""
    return [False] * (1 << len(runs))


def _each_breaks(rule, runs):
    """The parts that break each of a machine."""
    found = _all_breaks(rule, runs)
    for at, run in enumerate(runs):
        found[1 << at] = not rule.machine.takes([run])
    return _spread(found, len(runs))


def _bar_breaks(rule, runs):
    """The parts that break bar of a machine."""
    found = _all_breaks(rule, runs)
    rows = [([], 0)]
    for _ in range(rule.machine.tapes):
        rows = [(row + [run], part | (1 << at)) for row, part in rows for at, run in enumerate(runs)]
    for row, part in rows:
        if not found[part]:
            found[part] = rule.machine.takes(row)
    return _spread(found, len(runs))


def _pairs_break(runs, breaks):
    """The parts with two runs of which breaks says that they break a rule."""
    found = [False] * (1 << len(runs))
    for at, run in enumerate(runs):
        for before in range(at):
            found[(1 << before) + (1 << at)] = breaks(runs[before], run)
    return _spread(found, len(runs))


def _same_breaks(rule, runs):
    """The parts that break same."""
    looks = {run: [rule.letters.seen(letter, rule.before) for letter in run] for run in runs}
    return _pairs_break(runs, lambda one, other: looks[one] != looks[other])


def _led_breaks(rule, runs):
    """The parts that break led."""

    def breaks(one, other):
        for left, right in zip(one, other):
            if rule.letters.seen(left, rule.before) != rule.letters.seen(right, rule.before):
                return False
            if rule.letters.seen(left, rule.after) != rule.letters.seen(right, rule.after):
                return True
        return False

    return _pairs_break(runs, breaks)


def _both_breaks(rule, runs):
    """The parts that break at least one argument."""
    found = [broken_parts(argument, runs) for argument in rule.rules]
    return [any([parts[part] for parts in found]) for part in range(1 << len(runs))]


def _either_breaks(rule, runs):
    """The parts that break all arguments."""
    found = [broken_parts(argument, runs) for argument in rule.rules]
    return [all([parts[part] for parts in found]) for part in range(1 << len(runs))]


def _gives_breaks(rule, runs):
    """The parts within which some part keeps the first argument and breaks the second one."""
    before = broken_parts(rule.rules[0], runs)
    after = broken_parts(rule.rules[1], runs)
    return _spread([late and not early for early, late in zip(before, after)], len(runs))


def _few_breaks(rule, runs):
    """The parts within which some part with few runs breaks the argument."""
    sizes = _sizes(len(runs))
    found = broken_parts(rule.rules[0], runs)
    return _spread([size <= rule.most and broken for size, broken in zip(sizes, found)], len(runs))


def _carried_breaks(rule, runs):
    """The parts for which the program writes what breaks the argument."""
    written = [rule.program.written(run) for run in runs]
    lot = told_lot(rule.program.write, [run for run in written if run is not None])
    found = broken_parts(rule.rules[0], lot)
    bits = [0 if run is None else 1 << lot.index(run) for run in written]
    return [found[part] for part in _unions(bits)]


def _beside_breaks(rule, runs):
    """The parts that break the argument together with the told lot of the rule."""
    lot = told_lot(rule.letters, runs + list(rule.lot))
    found = broken_parts(rule.rules[0], lot)
    beside = sum([1 << lot.index(run) for run in rule.lot])
    return [found[part | beside] for part in _unions([1 << lot.index(run) for run in runs])]


BREAKS = {
    "all": _all_breaks, "none": _none_breaks, "each": _each_breaks, "bar": _bar_breaks, "same": _same_breaks,
    "led": _led_breaks, "both": _both_breaks, "either": _either_breaks, "gives": _gives_breaks, "few": _few_breaks,
    "carried": _carried_breaks, "beside": _beside_breaks,
}


def broken_parts(rule, runs):
    """The parts of a told lot, a list of its runs in order, that break a rule."""
    breaks = BREAKS[rule.kind]
    return breaks(rule, runs)


def checked_lot(rule, lot):
    """The runs of a told lot in order; raises the errors of asking for the plain meaning."""
    runs = told_lot(rule.letters, lot)
    many = len(runs) + rule.told_runs
    if many > MOST_RUNS:
        raise TooMany("runs", many)
    return runs


def lot_keeps(rule, lot):
    """Whether a told lot keeps a rule."""
    return not broken_parts(rule, checked_lot(rule, lot))[-1]


def _is_least_broken(found, part, many):
    """Whether a part breaks a rule, and no part within it with one run less does."""
    if not found[part]:
        return False
    return not any([part & (1 << at) and found[part - (1 << at)] for at in range(many)])


def least_broken(rule, lot):
    """The parts of a told lot that are least broken, those with fewer runs first, and then by their indexes."""
    runs = checked_lot(rule, lot)
    indexes = list(range(len(runs)))
    found = broken_parts(rule, runs)
    keys = []
    for part in range(len(found)):
        if _is_least_broken(found, part, len(runs)):
            held = tuple([at for at in indexes if part & (1 << at)])
            keys.append((len(held), held))
    return [[runs[at] for at in held] for _, held in sorted(keys)]


def run_keeps(rule, run):
    """Whether a run keeps a rule alone."""
    return lot_keeps(rule, [run])
