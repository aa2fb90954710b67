"""Runs that may come beside a told lot."""

from fewbreak.besides import beside
from fewbreak.kept import alone


def may_come(rule, lot):
    """The machine of the runs that keep a rule together with a told lot that keeps it."""
    return alone(beside(lot, rule))
