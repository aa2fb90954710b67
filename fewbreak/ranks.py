"""The ranks of rules, which tell how few runs are enough to break them."""

from fewbreak.broken import broken_machine, check_room, lifts, rough_broken
from fewbreak.follows import first_against, first_taken
from fewbreak.least import rough_turned
from fewbreak.rules import Rule, check_letters


def few_enough(rule):
    """The rank of a rule for whose number there is room."""
    for tapes in range(rule.number, 0, -1):
        fewer = [rough_turned(part) for part in lifts(rule, tapes - 1, tapes)]
        if first_taken([rough_broken(rule, tapes)] + fewer) is not None:
            return tapes
    return 0


def rank(rule):
    """The least number of runs such that each lot that breaks a rule has a part with at most so many that breaks it."""
    check_room(rule, rule.number)
    return few_enough(rule)


def ladder(rule):
    """For each number below the rank, the first lot that breaks a rule while its parts with so many runs keep it."""
    most = rank(rule)
    found = []
    for size in range(most):
        few_keep = Rule("few", rule.letters, rules=(rule,), most=size)
        found.append(first_against([few_keep], rule, most))
    return found


def alike(one, other):
    """Whether two rules are kept by the same lots."""
    check_letters(one.letters, [other])
    most = rank(one)
    if most != rank(other):
        return False
    return most == 0 or broken_machine(one, most) == broken_machine(other, most)
