"""Deals: the runs of a lot that look the same at some parts, dealt together."""

from fewbreak.follows import follows
from fewbreak.looks import check_names
from fewbreak.rules import Rule, same
from fewbreak.runs import told_lot


def dealt(rule, names):
    """None if a rule may be dealt by some parts, otherwise the first lot whose deals keep it and that breaks it."""
    alike_runs = same(rule.letters, *names)
    # this rule is not made for the caller, so the limits of rules do not hold for it
    return follows([Rule("gives", rule.letters, rules=(alike_runs, rule))], rule)


def deal(letters, lot, names):
    """The deals of a told lot by some parts, as told lots, by their first runs in order."""
    check_names(letters, names)
    found = {}
    for run in told_lot(letters, lot):
        look = tuple([letters.seen(letter, names) for letter in run])
        found.setdefault(look, []).append(run)
    return list(found.values())
