"""Told lots and rules: greatest parts that keep a rule, struck runs, and runs that stay.

Which parts break a rule is told as in the module meaning: by a list with True or False for each part, by its number.
"""

from fewbreak.meaning import broken_parts, checked_lot


def _is_greatest(broken, part, held):
    """Whether a part keeps a rule, and breaks it with any one more of the runs with some indexes."""
    if broken[part]:
        return False
    return all([broken[part | (1 << at)] for at in held if not part & (1 << at)])


def answers_within(broken, held):
    """The greatest parts that keep a rule of the part with some indexes, in order, as ascending tuples of indexes."""
    whole = sum([1 << at for at in held])
    keys = []
    for part in range(whole + 1):
        if part & whole == part and _is_greatest(broken, part, held):
            some = tuple([at for at in held if part & (1 << at)])
            keys.append((-len(some), some))
    return [some for _, some in sorted(keys)]


def _runs_and_answers(rule, lot):
    """The runs of a told lot in order, and the tuples of the indexes of its greatest parts."""
    runs = checked_lot(rule, lot)
    return runs, answers_within(broken_parts(rule, runs), list(range(len(runs))))


def greatest(rule, lot):
    """The greatest parts of a told lot that keep a rule, in order."""
    runs, answers = _runs_and_answers(rule, lot)
    return [[runs[at] for at in held] for held in answers]


def struck(rule, lot):
    """The fewest runs of a told lot without which the others keep a rule, in order."""
    runs, answers = _runs_and_answers(rule, lot)
    keys = []
    for held in answers:
        left_out = tuple([at for at in range(len(runs)) if at not in held])
        keys.append((len(left_out), left_out))
    fewest = min(keys)
    return [runs[at] for at in fewest[1]]


def staying(rule, lot):
    """The runs of a told lot that are in each greatest part that keeps a rule, in order."""
    runs, answers = _runs_and_answers(rule, lot)
    return [run for at, run in enumerate(runs) if all([at in held for held in answers])]
