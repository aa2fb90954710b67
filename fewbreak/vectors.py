"""Vectors: which rules of a stock are broken by lots that keep all known rules and break a wish.

Sets of rules of the stock are told by numbers here: a set has the rule with the index i if its number has the bit i.
"""

from fewbreak.broken import row_breaks
from fewbreak.errors import BadNumber, TooMany
from fewbreak.follows import check_asked, first_against

MOST_RULES = 8


def check_stock(stock, wish, known):
    """Raises the errors of asking for the vectors of a stock."""
    if len(stock) > MOST_RULES:
        raise TooMany("rules", len(stock))
    check_asked(list(known) + list(stock), wish)


def _indexes(group, many):
    """The ascending tuple of the indexes, below a number, of the rules of a set."""
    return tuple([at for at in range(many) if group & (1 << at)])


def _lot_within(stock, wish, known, group):
    """The first lot that keeps the known rules and all of the stock but those of a set, and breaks a wish, or None."""
    kept = [rule for at, rule in enumerate(stock) if not group & (1 << at)]
    return first_against(list(known) + kept, wish)


def _broken_group(stock, lot):
    """The set of the rules of a stock that a lot breaks."""
    return sum([1 << at for at, rule in enumerate(stock) if row_breaks(rule, lot)])


def _by_size(many):
    """All sets of rules of a stock of so many, those with more rules first."""
    keys = [(len(_indexes(group, many)), group) for group in range(1 << many)]
    return [group for _, group in sorted(keys, reverse=True)]


def _open_groups(stock, wish, known):
    """For each set of rules of a stock, whether some lot breaks no others, keeps the known rules and breaks a wish."""
    groups = _by_size(len(stock))
    found = [None] * len(groups)
    for group in groups:
        if found[group] is None:
            lot = _lot_within(stock, wish, known, group)
            # a lot answers for all sets that have the rules it breaks; no lot, for all smaller sets
            if lot is None:
                answered = [other for other in groups if other & group == other]
            else:
                broken = _broken_group(stock, lot)
                answered = [other for other in groups if other & broken == broken]
            for other in answered:
                found[other] = lot is not None
    return found


def least_vectors(stock, wish, known):
    """As vectors, where no error is raised."""
    many = len(stock)
    is_open = _open_groups(stock, wish, known)
    found = []
    for group in range(1 << many):
        held = _indexes(group, many)
        if is_open[group] and not any([is_open[group - (1 << at)] for at in held]):
            found.append((len(held), held, _lot_within(stock, wish, known, group)))
    return [(held, lot) for _, held, lot in sorted(found)]


def vectors(stock, wish, *, known_rules=()):
    """The pairs of a least vector and its lot, in order."""
    check_stock(stock, wish, known_rules)
    return least_vectors(stock, wish, known_rules)


def enough(stock, picked, wish, *, known_rules=()):
    """None if the choice of some indexes of a stock is enough, otherwise the first lot that shows that it is not."""
    if len(stock) > MOST_RULES:
        raise TooMany("rules", len(stock))
    for index in picked:
        if not 0 <= index < len(stock):
            raise BadNumber(index)
    check_stock(stock, wish, known_rules)
    chosen = [rule for at, rule in enumerate(stock) if at in picked]
    return first_against(list(known_rules) + chosen, wish)
