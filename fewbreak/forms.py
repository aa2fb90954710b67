"""The forms of rules: two rules over the same letters are kept by the same lots if they have one form."""

from fewbreak.broken import broken_machine
from fewbreak.ranks import rank
from fewbreak.rules import all_rule, bar


class Form:
    """The rank of a rule, and the least machine of its broken rows with so many runs. It never changes."""

    def __init__(self, runs, machine):
        self.runs = runs
        self.machine = machine

    def __eq__(self, other):
        return isinstance(other, Form) and self.runs == other.runs and self.machine == other.machine

    def __repr__(self):
        standings = 0 if self.machine is None else self.machine.standings
        return f"Form({self.runs} runs, {standings} standings)"


def form(rule):
    """The form of a rule."""
    runs = rank(rule)
    return Form(runs, broken_machine(rule, runs) if runs > 0 else None)


def bar_with_rank(rule, runs):
    """The bar of the machine of the form of a rule with a rank, or the rule all for the rank 0."""
    if runs == 0:
        return all_rule(rule.letters)
    return bar(broken_machine(rule, runs))


def bar_of(rule):
    """The bar of the machine of the form of a rule, or the rule all for the rank 0."""
    return bar_with_rank(rule, rank(rule))
