"""The weakest rules that are still wanted, and the wishes to which rules follow."""

from fewbreak.follows import check_asked, follows, many_enough, rank_from
from fewbreak.forms import bar_with_rank
from fewbreak.rules import Rule


def weakest(rules, wish):
    """The weakest rule that together with some rules follows to a wish."""
    check_asked(rules, wish)
    # these two are not made for the caller: neither the limits of rules nor their common room is looked at
    before = Rule("both", wish.letters, rules=rules)
    wanted = Rule("gives", wish.letters, rules=(before, wish))
    return bar_with_rank(wanted, rank_from(wanted, many_enough(wish)))


def sides_of(rules, wishes):
    """The ascending list of the indexes of the wishes to which some rules follow."""
    return [at for at, wish in enumerate(wishes) if follows(rules, wish) is None]
