"""Machines held against rules: whether their runs keep a rule, alone and together."""

from fewbreak.broken import check_room, kept_rows
from fewbreak.errors import UnlikeParts, UnlikeTapes
from fewbreak.follows import first_against
from fewbreak.rules import Rule, each


def check_held(machine, rule):
    """Raises the errors of holding a machine against a rule."""
    if machine.tapes != 1:
        raise UnlikeTapes(machine.tapes, 1)
    if machine.letters != rule.letters:
        raise UnlikeParts(str(rule.letters), str(machine.letters))
    check_room(rule, rule.number)


def keeps(machine, rule):
    """None if the lot of a machine keeps a rule, otherwise the first lot of its runs that breaks the rule."""
    check_held(machine, rule)
    return first_against([each(machine)], rule)


def alone(rule):
    """The machine of all runs that keep a rule alone."""
    return kept_rows(rule, 1)


def clash(machine, rule):
    """The first least broken lot of two runs or more within the lot of a machine, None without one."""
    check_held(machine, rule)
    # some part of a broken lot is least broken; the first lot has no smaller part, so it is least broken itself
    kept_alone = Rule("few", rule.letters, rules=(rule,), most=1)
    return first_against([each(machine), kept_alone], rule)
