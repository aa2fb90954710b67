"""What programs make of lots that keep a rule, and what a rule does not see of them."""

from fewbreak.broken import broken_machine
from fewbreak.errors import UnlikeParts
from fewbreak.follows import check_asked, first_against, follows
from fewbreak.looks import blot
from fewbreak.ranks import rank
from fewbreak.rules import Rule, carried


def check_reads(program, rule):
    """Raises UnlikeParts if a program does not read what a rule is over."""
    if program.read != rule.letters:
        raise UnlikeParts(str(program.read), str(rule.letters))


def carries(before, program, after):
    """None if what a program writes for each lot that keeps a rule keeps another one, otherwise the first lot."""
    check_reads(program, before)
    return follows([before], carried(program, after))


def programs_part(one, other, rule):
    """None if two programs are alike for a rule, otherwise the first lot that tells them apart."""
    if one.read != other.read:
        raise UnlikeParts(str(one.read), str(other.read))
    left = carried(one, rule)
    right = carried(other, rule)
    # both rules have one number, so the other way round there is nothing more to look at
    check_asked([left], right)
    lot = first_against([left], right)
    if lot is None:
        lot = first_against([right], left)
    return lot


def unseen(rule):
    """The list of the names of the parts that a rule does not see, in the order of the letters."""
    most = rank(rule)
    if most == 0:
        return list(rule.letters.names)
    found = []
    for name in rule.letters.names:
        # least broken lots of the carried rule have no more runs, either
        blotted = Rule("carried", rule.letters, rules=(rule,), program=blot(rule.letters, name))
        if broken_machine(blotted, most) == broken_machine(rule, most):
            found.append(name)
    return found
