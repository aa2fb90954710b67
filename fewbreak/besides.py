"""Rules about lots beside a told lot."""

from fewbreak.errors import BreaksBeside
from fewbreak.meaning import least_broken
from fewbreak.rules import Rule, limited
from fewbreak.runs import told_lot


def beside(lot, rule):
    """The rule that a lot together with a told lot, which must keep a rule itself, keeps this rule."""
    runs = told_lot(rule.letters, lot)
    found = limited(Rule("beside", rule.letters, rules=(rule,), lot=tuple(runs)))
    broken = least_broken(rule, runs)
    if broken:
        raise BreaksBeside(broken[0])
    return found
