"""The ranks of rules, which tell how few runs are enough to break them."""

from fewbreak.broken import broken_machine, check_room
from fewbreak.follows import few_enough, first_against
from fewbreak.rules import Rule, check_letters


def rank(rule):
    """The least number of runs such that each lot that breaks a rule has a part with at most so many that breaks it."""
    check_room(rule, rule.number)
    return few_enough(rule)


def rung(rule, size):
    """The first lot that breaks a rule while its parts with so many runs keep it, None without one."""
    few_keep = Rule("few", rule.letters, rules=(rule,), most=size)
    return first_against([few_keep], rule)


def ladder(rule):
    """For each number below the rank, the first lot that breaks a rule while its parts with so many runs keep it."""
    return [rung(rule, size) for size in range(rank(rule))]


def alike(one, other):
    """Whether two rules are kept by the same lots."""
    check_letters(one.letters, [other])
    most = rank(one)
    if most != rank(other):
        return False
    return most == 0 or broken_machine(one, most) == broken_machine(other, most)
